/- The laws of controls return true: the walks. -/
import Derived.Test.YthmkkanjjlechaaMade18
import Derived.Deep.RegionHeld3
namespace Go.Proofs.Ythmkkanjjlechaa
open Go.ChangeShapes Go.WideShapes Go.ChangeAt Go.RowKit
set_option linter.unusedVariables false
set_option linter.unusedSimpArgs false

theorem adj_up {t c g m n : Int} (h1 : 0 ≤ t ∧ t ≤ 2040) (h2 : 0 ≤ c ∧ c ≤ 59) (h3 : 1 ≤ g ∧ g ≤ 200) (h4 : 0 ≤ m ∧ m ≤ 4096) (h5 : 0 ≤ n) (h6 : n ≤ 100000) : adjV t c g m (t + n) = if c < n then min m ((n - c) * g) else 0 := by
  unfold adjV
  rw [if_pos ⟨ctlV_true.2 ⟨by omega, by omega, by omega, h4⟩, by omega, by omega⟩, show t + n - t = n by omega]
  split
  · rfl
  · rw [if_neg (by omega)]
theorem adj_down {t c g m n : Int} (h1 : 0 ≤ t ∧ t ≤ 2040) (h2 : 0 ≤ c ∧ c ≤ 59) (h3 : 1 ≤ g ∧ g ≤ 200) (h4 : 0 ≤ m ∧ m ≤ 4096) (h5 : 0 ≤ n) (h6 : n ≤ t) : adjV t c g m (t - n) = -(if c < n then min m ((n - c) * g) else 0) := by
  unfold adjV
  rw [if_pos ⟨ctlV_true.2 ⟨by omega, by omega, by omega, h4⟩, by omega, by omega⟩, show t - n - t = -n by omega, show t - (t - n) - c = n - c by omega, if_neg (by omega)]
  by_cases h : c < n
  · rw [if_pos (by omega), if_pos h]
  · rw [if_neg (by omega), if_neg h]; rfl
theorem adj_ascends {t c g m n k : Int} (h1 : 0 ≤ t ∧ t ≤ 2040) (h2 : 0 ≤ c ∧ c ≤ 59) (h3 : 1 ≤ g ∧ g ≤ 200) (h4 : 0 ≤ m ∧ m ≤ 4096) (h5 : 0 ≤ n ∧ n ≤ 1999) (h6 : 0 ≤ k ∧ k ≤ 255) :
    adjV t c g m (t + n) ≤ adjV t c g m (t + n + k) ∧ 0 ≤ adjV t c g m (t + n) ∧ adjV t c g m (t + n + k) ≤ m ∧ (n ≤ t → adjV t c g m (t - n) = -adjV t c g m (t + n)) ∧ (n ≤ c → adjV t c g m (t + n) = 0) ∧ (c < n → m ≠ 0 → 0 < adjV t c g m (t + n)) := by
  have e1 := adj_up h1 h2 h3 h4 h5.1 (by omega)
  have e2 := adj_up (n := n + k) h1 h2 h3 h4 (by omega) (by omega)
  rw [show t + (n + k) = t + n + k by omega] at e2
  have p1 : c < n → (n - c) * g ≤ (n + k - c) * g := fun h => Int.mul_le_mul_of_nonneg_right (by omega) (by omega)
  have p2 : c < n → 1 * 1 ≤ (n - c) * g := fun h => Int.mul_le_mul (by omega) (by omega) (by omega) (by omega)
  have p3 : c < n + k → 1 * 1 ≤ (n + k - c) * g := fun h => Int.mul_le_mul (by omega) (by omega) (by omega) (by omega)
  refine ⟨?_, ?_, ?_, fun h => ?_, fun h => ?_, fun h hm => ?_⟩
  · rw [e1, e2]
    split
    · rw [if_pos (by omega)]; have := p1 (by assumption); omega
    · split
      · have := p3 (by assumption); omega
      · omega
  · rw [e1]; split
    · have := p2 (by assumption); omega
    · omega
  · rw [e2]; split <;> omega
  · rw [adj_down h1 h2 h3 h4 h5.1 h, e1]
  · rw [e1, if_neg (by omega)]
  · rw [e1, if_pos h]; have := p2 h; omega
/-- a call that keeps what block C holds -/
theorem Calls.keeps {P : Program} {f : FuncId} {args : Array Value} {w W : World} {C : Nat} {T : TypeId} {p q r s : Value} {v : Value}
    (hc : Calls P f args w fun e w' => e = .returned v ∧ Below w.heap.size w w')
    (h : w.cell? ⟨C, 0, none⟩ = some p ∧ w.cell? ⟨C, 1, none⟩ = some q ∧ w.cell? ⟨C, 2, none⟩ = some r ∧ w.cell? ⟨C, 3, none⟩ = some s ∧ Blk w C [p, q, r, s] T ∧ Below W.heap.size W w) :
    Calls P f args w fun e w' => e = .returned v ∧ (w'.cell? ⟨C, 0, none⟩ = some p ∧ w'.cell? ⟨C, 1, none⟩ = some q ∧ w'.cell? ⟨C, 2, none⟩ = some r ∧ w'.cell? ⟨C, 3, none⟩ = some s ∧ Blk w' C [p, q, r, s] T ∧ Below W.heap.size W w') :=
  hc.mono fun e w' ⟨h1, h2⟩ => by
    have hb := h.2.2.2.2.1.kept h2
    exact ⟨h1, hb.cell 0 rfl, hb.cell 1 rfl, hb.cell 2 rfl, hb.cell 3 rfl, hb, h.2.2.2.2.2.trans (h2.mono h.2.2.2.2.2.size)⟩
set_option maxRecDepth 100000 in
set_option maxHeartbeats 8000000 in
theorem controlAscends_walk (a : Option Addr) (len cap : Nat) (l : List Int) (dd more : Int) (w : World) (hs : Sl .u8 w a len cap l) (hd : 0 ≤ dd ∧ dd ≤ 65535) (hm : 0 ≤ more ∧ more ≤ 255) :
    Calls Try.prog 6 #[.slice a len cap, .int .u16 dd, .int .u8 more] w fun e w' => e = .returned (.bool true) ∧ Below w.heap.size w w' := by
  have HS := hid hs
  obtain ⟨d1, d2⟩ := hd
  obtain ⟨m1, m2⟩ := hm
  clear hs
  go_enter Try.func6, Try.ntmps6
  go_wp2_with (first
    | (go_at_call 13; (with_reducible refine (sane18_any _).mono ?_); rintro e w1 ⟨rfl, hb⟩; have HB := hid hb; clear hb)
    | (go_at_call 15; (with_reducible refine (new_any a len cap l _ (HS.out.below (HB.out))).mono ?_); rintro e w2 ⟨d, rfl, hd0, hdk, hb⟩; have HK := hid hdk; have HB2 := hid hb; clear hdk hb)
    | (go_at_call 14; (with_reducible refine (made18_any _ d HK.out).mono ?_); rintro e w3 ⟨⟨t, c, g, m, pn, pd, k, j, rfl, ⟨t1, t2⟩, ⟨c1, c2⟩, ⟨g1, g2⟩, hmm, hper, hkk, j1, j2⟩, hdk, hbt⟩; have HM := hid hmm; have HP := hid hper; have HKK := hid hkk; have HK2 := hid hdk; have HB3 := hid hbt; clear hmm hper hkk hdk hbt))
  have hbl : Blk ((w3.alloc (.cells #[I64 t, I64 c, I64 g, I64 m] 23)).alloc (.cells #[I64 pn, I64 pd] 27)) w3.heap.size [I64 t, I64 c, I64 g, I64 m] 23 := (Blk.alloc_new w3 _ _).kept (by go_grown)
  have hB4 : Below w.heap.size w ((w3.alloc (.cells #[I64 t, I64 c, I64 g, I64 m] 23)).alloc (.cells #[I64 pn, I64 pd] 27)) := by
    have h1 := HB.out
    have h2 := (HB2.out).mono h1.size
    have h3 := HB3.out.below (Nat.le_trans h1.size hd0) (Nat.le_trans h1.size HB2.out.size)
    exact (((h1.trans h2).trans h3).alloc (Nat.le_trans h1.size (Nat.le_trans HB2.out.size HB3.out.size)) _).alloc (by have := h1.size; have := HB2.out.size; have := HB3.out.size; simp; omega) _
  generalize ((w3.alloc (.cells #[I64 t, I64 c, I64 g, I64 m] 23)).alloc (.cells #[I64 pn, I64 pd] 27)) = W4 at *
  have hCl := hbl.lt
  generalize w3.heap.size = C at *
  have f0 := hbl.cell 0 rfl
  have f1 := hbl.cell 1 rfl
  have f2 := hbl.cell 2 rfl
  have f3 := hbl.cell 3 rfl
  have hS : W4.drew.cell? ⟨C, 0, none⟩ = some (.int .i64 t) ∧ W4.drew.cell? ⟨C, 1, none⟩ = some (.int .i64 c) ∧ W4.drew.cell? ⟨C, 2, none⟩ = some (.int .i64 g) ∧ W4.drew.cell? ⟨C, 3, none⟩ = some (.int .i64 m) ∧ Blk W4.drew C [.int .i64 t, .int .i64 c, .int .i64 g, .int .i64 m] 23 ∧ Below w.heap.size w W4.drew :=
    ⟨f0, f1, f2, f3, hbl, hB4.drew⟩
  clear hB4 hbl HB HB2 HB3 HK HK2 HP HKK HS
  have hN1 := Int.emod_nonneg dd (show (2000 : Int) ≠ 0 by omega)
  have hN2 := Int.emod_lt_of_pos dd (show (0 : Int) < 2000 by omega)
  generalize dd % 2000 = N at *
  have hm0 : 0 ≤ m ∧ m ≤ 4096 := by have := HM.out; simp at this; omega
  have key := adj_ascends (t := t) (c := c) (g := g) (m := m) (n := N) (k := more) ⟨t1, t2⟩ ⟨c1, c2⟩ ⟨g1, g2⟩ hm0 ⟨hN1, by omega⟩ ⟨m1, m2⟩
  obtain ⟨hm01, hm02⟩ := hm0
  have q1 : IntKind.i64.wrap (t + N) = t + N := IntWalk.i64_in _ (by omega)
  have q2 : IntKind.i64.wrap more = more := IntWalk.i64_in _ (by omega)
  have q3 : IntKind.i64.wrap (t + N + more) = t + N + more := IntWalk.i64_in _ (by omega)
  go_region_held3 (fun w' => w'.cell? ⟨C, 0, none⟩ = some (.int .i64 t) ∧ w'.cell? ⟨C, 1, none⟩ = some (.int .i64 c) ∧ w'.cell? ⟨C, 2, none⟩ = some (.int .i64 g) ∧ w'.cell? ⟨C, 3, none⟩ = some (.int .i64 m) ∧ Blk w' C [.int .i64 t, .int .i64 c, .int .i64 g, .int .i64 m] 23 ∧ Below w.heap.size w w') (assumption) (first | (go_at_call 16; refine (Calls.keeps (adj_any _ _ _ _ _ _) (by assumption)).mono ?_; rintro e w' ⟨rfl, hS⟩))
  have HK := hid key
  clear key q1 q2 q3 HM
  obtain ⟨s0, s1, s2, s3, hbl, hbw⟩ := hS
  have HBL := hid hbl
  have HBW := hid hbw
  obtain ⟨k1, k2, k3, k4, k5, k6⟩ := HK.out
  have cA := hid (fun w => adj_any t c g m (t - N) w)
  clear hbl hbw HK f0 f1 f2 f3 hCl
  generalize adjV t c g m (t + N) = A at *
  generalize adjV t c g m (t + N + more) = B at *
  generalize adjV t c g m (t - N) = D at *
  have K4 := hid k4
  have K5 := hid k5
  have K6 := hid k6
  clear k4 k5 k6
  go_wp2_with (go_at_call 16; (with_reducible refine (cA.out _).mono ?_); rintro e w5 ⟨rfl, hb⟩; have g0 := (HBL.out.kept hb).cell 0 rfl; have g1 := (HBL.out.kept hb).cell 1 rfl; have g2 := (HBL.out.kept hb).cell 2 rfl; have g3 := (HBL.out.kept hb).cell 3 rfl; have HB5 := hid (HBW.out.trans (hb.mono HBW.out.size)); clear hb)
  all_goals go_ret
  all_goals (refine ⟨ret_bool ?_, by first | exact HBW.out | exact HB5.out⟩)
  all_goals (have k4 := K4.out; have k5 := K5.out; have k6 := K6.out)
  all_goals first
    | rfl
    | (simp; done)
    | (simp; omega)
    | (exfalso; omega)
    | (exfalso; simp_all; omega)
    | trace_state
end Go.Proofs.Ythmkkanjjlechaa
