/- PlugFades: the walk. -/
import Derived.Test.YtnfkcfogmficfaaPlugSane
import Derived.Deep.RegionHeld3
namespace Go.Proofs.Ytnfkcfogmficfaa
open Go.ChangeShapes Go.WideShapes Go.ChangeAt Go.RowKit
set_option linter.unusedVariables false
set_option linter.unusedSimpArgs false

theorem Lv.setc {W w : World} {b i : Nat} {v : Value} {vs : List Value} {T : TypeId} {L : List (Nat × List Value × TypeId)} (h : Lv W w ((b, vs, T) :: L)) (hb : W.heap.size ≤ b) (hL : ∀ x ∈ L, x.1 ≠ b) : Lv W (w.setCell ⟨b, i, none⟩ v) ((b, vs.set i v, T) :: L) := by
  have hbk : ∀ k, k < w.heap.size → k ≠ b → (w.setCell ⟨b, i, none⟩ v).heap[k]? = w.heap[k]? := fun k _ hk => Below.heap_setCell _ _ _ _ hk
  refine ⟨h.below.setCell (by show W.heap.size ≤ b; omega) _, ?_, h.live.2.turn hbk hL⟩
  have := heap_setCell_same w b i vs.toArray T v h.live.1
  simpa using this
theorem Lv.set5 {W w : World} {b : Nat} {x0 x1 x2 x3 x4 y0 y1 y2 y3 y4 : Value} {T : TypeId} {L : List (Nat × List Value × TypeId)} (h : Lv W w ((b, [x0, x1, x2, x3, x4], T) :: L)) (hb : W.heap.size ≤ b) (hL : ∀ x ∈ L, x.1 ≠ b) :
    Lv W (w.setCells b 0 [y0, y1, y2, y3, y4]) ((b, [y0, y1, y2, y3, y4], T) :: L) :=
  ((((h.setc (i := 0) (v := y0) hb hL).setc (i := 1) (v := y1) hb hL).setc (i := 2) (v := y2) hb hL).setc (i := 3) (v := y3) hb hL).setc (i := 4) (v := y4) hb hL
theorem cellsM {W w : World} {b : Nat} {T : TypeId} {x0 x1 x2 x3 x4 : Value} {L : List (Nat × List Value × TypeId)} (h : Lv W w ((b, [x0, x1, x2, x3, x4], T) :: L)) : w.cell? ⟨b, 0, none⟩ = some x0 ∧ w.cell? ⟨b, 1, none⟩ = some x1 ∧ w.cell? ⟨b, 2, none⟩ = some x2 ∧ w.cell? ⟨b, 3, none⟩ = some x3 ∧ w.cell? ⟨b, 4, none⟩ = some x4 := by
  have hL := h.facts
  simp only [liveAt, cellsAt, Nat.zero_add, Nat.reduceAdd] at hL
  obtain ⟨⟨a0, _, a1, _, a2, _, a3, _, a4, _⟩, _⟩ := hL
  exact ⟨a0, a1, a2, a3, a4⟩
/-- phase and rest of a move after so many quanta -/
def phF (F k : Int) : Int := if k < F then 1 else if k < 2 * F then 2 else 3
def lfF (F k : Int) : Int := if k < F then F - k else if k < 2 * F then 2 * F - k else 0
theorem adv_out {F k t : Int} (h1 : 1 ≤ F) (h2 : F ≤ 12) (k0 : 0 ≤ k) (k1 : k < 2 * F) (ht : t ≠ 0) : adv t (phF F k) (lfF F k) F = (phF F (k + 1), lfF F (k + 1)) := by
  unfold adv phF lfF
  by_cases c1 : k < F
  · rw [if_pos c1, if_pos c1, if_pos ⟨.inl rfl, by omega, by omega, by omega⟩]
    by_cases c2 : F - k = 1
    · rw [if_pos c2, if_pos ⟨rfl, ht⟩, if_neg (by omega), if_pos (by omega), if_neg (by omega), if_pos (by omega), show 2 * F - (k + 1) = F by omega]
    · rw [if_neg c2, if_pos (by omega), if_pos (by omega), show F - k - 1 = F - (k + 1) by omega]
  · rw [if_neg c1, if_pos k1, if_neg c1, if_pos k1, if_pos ⟨.inr rfl, by omega, by omega, by omega⟩]
    by_cases c2 : 2 * F - k = 1
    · rw [if_pos c2, if_neg (by omega), if_neg (by omega), if_neg (by omega), if_neg (by omega), if_neg (by omega)]
    · rw [if_neg c2, if_neg (by omega), if_pos (by omega), if_neg (by omega), if_pos (by omega), show 2 * F - k - 1 = 2 * F - (k + 1) by omega]
set_option maxRecDepth 100000 in
set_option maxHeartbeats 16000000 in
theorem plugFades_walk (s f0 t0 fd : Int) (w : World) (hf : 0 ≤ f0 ∧ f0 ≤ 18446744073709551615) (ht : 0 ≤ t0 ∧ t0 ≤ 18446744073709551615) :
    Calls Try.prog 10 #[.int .i64 s, .int .u64 f0, .int .u64 t0, .int .i64 fd] w fun e w' => e = .returned (.bool true) ∧ Below w.heap.size w w' := by
  obtain ⟨f1, f2⟩ := hf
  obtain ⟨t1, t2⟩ := ht
  have cm := hid (fun w => mod_any fd 12 (by omega) (by omega) w)
  have m1 := Int.emod_nonneg fd (show (12 : Int) ≠ 0 by omega)
  have m2 := Int.emod_lt_of_pos fd (show (0 : Int) < 12 by omega)
  have u1 := Int.emod_nonneg f0 (show (9 : Int) ≠ 0 by omega)
  have u2 := Int.emod_lt_of_pos f0 (show (0 : Int) < 9 by omega)
  have u3 := Int.emod_nonneg t0 (show (9 : Int) ≠ 0 by omega)
  have u4 := Int.emod_lt_of_pos t0 (show (0 : Int) < 9 by omega)
  generalize fd % 12 = F0 at *
  obtain ⟨fm, hfm⟩ : ∃ x, f0 % 9 = x := ⟨_, rfl⟩
  obtain ⟨tm, htm⟩ : ∃ x, t0 % 9 = x := ⟨_, rfl⟩
  rw [hfm] at u1 u2
  rw [htm] at u3 u4
  go_enter Try.func10, Try.ntmps10
  go_wp2_with (first
    | (go_at_call 27; (with_reducible refine (sane33_any _).mono ?_); rintro e w1 ⟨rfl, hb⟩; have HL := hid ((Lv.start w).kept hb); clear hb)
    | (go_at_call 15; (with_reducible refine (cm.out _).mono ?_); rintro e w2 ⟨rfl, rfl⟩))
  clear hfm htm
  have e1 : 1 + F0 = 1 + F0 := rfl
  obtain ⟨F, hF⟩ : ∃ x, 1 + F0 = x := ⟨_, rfl⟩
  obtain ⟨f, hf⟩ : ∃ x, 1 + fm = x := ⟨_, rfl⟩
  obtain ⟨t, ht⟩ : ∃ x, 11 + tm = x := ⟨_, rfl⟩
  have F1 : 1 ≤ F := by omega
  have F2' : F ≤ 12 := by omega
  have b1 : 1 ≤ f := by omega
  have b2 : f ≤ 9 := by omega
  have b3 : 11 ≤ t := by omega
  have b4 : t ≤ 19 := by omega
  simp only [hF, hf, ht]
  clear hF hf ht e1 u1 u2 u3 u4 m1 m2 cm
  have cb := hid (fun w => beg_any s f t F w)
  rw [show beg f t F = (phF F 0, lfF F 0) from by unfold beg phF lfF; rw [if_neg (by omega), if_neg (by omega), if_pos (by omega), if_pos (by omega), Int.sub_zero]] at cb
  (with_reducible refine (cb.out _).mono ?_); rintro e w3 ⟨rfl, hb⟩; have HL1 := hid (Lv.alloc (vs := [.int .i64 s, .int .u64 f, .int .u64 t, .int .i64 (phF F 0), .int .i64 (lfF F 0)]) (T := 72) (HL.out.kept hb)); have hB := HL.out.size; have hB2 := hb.size; clear hb HL cb
  have hB3 : w.heap.size ≤ w3.heap.size := by omega
  clear hB hB2
  go_wp2_with fail
  generalize w3.alloc _ = W4 at *
  generalize w3.heap.size = B at *
  go_loopw [10] (fun i wr => ∃ k : Nat, (k : Int) ≤ 2 * F ∧ i = .int .i64 k ∧ Hid (Lv w wr [(B, [.int .i64 s, .int .u64 f, .int .u64 t, .int .i64 (phF F k), .int .i64 (lfF F k)], 72)])) (fun i _ => (2 * F).toNat - (intOf i).toNat)
  case atStart => exact ⟨0, by omega, rfl, HL1⟩
  case round =>
    obtain ⟨k, hk, rfl, hl⟩ := hrel
    clear HL1
    by_cases hlt : (k : Int) < 2 * F
    · have hkb : decide ((k : Int) < 2 * F) = true := decide_eq_true hlt
      have ca := hid (fun w => adv_any s f t (phF F k) (lfF F k) F w (by unfold lfF; split <;> (try split) <;> omega))
      rw [adv_out F1 F2' (by omega) hlt (by omega)] at ca
      by_cases hkF : (k : Int) < F
      all_goals
        first
          | (have ep : phF F k = 1 := if_pos hkF)
          | (have ep : phF F k = 2 := (if_neg hkF).trans (if_pos hlt))
        rw [ep] at ca hl
        have cw := hid (fun w => wan_any s f t 1 (lfF F k) w)
        have cw2 := hid (fun w => wan_any s f t 2 (lfF F k) w)
        rw [show wan f t 1 = (f, false) from rfl] at cw
        rw [show wan f t 2 = (t, true) from rfl] at cw2
        have ek : ((k + 1 : Nat) : Int) = (k : Int) + 1 := by omega
        generalize lfF F k = Lf at *
        have HR := hid (fun (W : World) (h : Lv w W [(B, [.int .i64 s, .int .u64 f, .int .u64 t, .int .i64 (phF F (k + 1)), .int .i64 (lfF F (k + 1))], 72)]) => (by rw [ek]; exact h : Lv w W [(B, [.int .i64 s, .int .u64 f, .int .u64 t, .int .i64 (phF F ((k + 1 : Nat) : Int)), .int .i64 (lfF F ((k + 1 : Nat) : Int))], 72)]))
        generalize phF F (k + 1) = P2 at *
        generalize lfF F (k + 1) = L2 at *
        first
          | (have d1 : decide (F ≤ (k : Int)) = false := decide_eq_false (by omega))
          | (have d1 : decide (F ≤ (k : Int)) = true := decide_eq_true (by omega))
        have hL := hl.out.facts
        simp only [liveAt, cellsAt, and_true, Nat.zero_add, Nat.reduceAdd, World.size_alloc] at hL
        clear ep ek
        go_wp2_with (first
          | (go_at_call 41; (with_reducible refine (cw.out _).mono ?_); rintro e v1 ⟨rfl, hb⟩; have K1 := hid (hl.out.kept hb); clear hb hL; have hL := K1.out.facts; simp only [liveAt, cellsAt, and_true, Nat.zero_add, Nat.reduceAdd, World.size_alloc] at hL)
          | (go_at_call 41; (with_reducible refine (cw2.out _).mono ?_); rintro e v1 ⟨rfl, hb⟩; have K1 := hid (hl.out.kept hb); clear hb hL; have hL := K1.out.facts; simp only [liveAt, cellsAt, and_true, Nat.zero_add, Nat.reduceAdd, World.size_alloc] at hL)
          | (go_at_call 39; (with_reducible refine (ca.out _).mono ?_); rintro e v2 ⟨rfl, hb⟩; have K2 := hid (K1.out.kept hb); clear hb hL; have hL := K2.out.facts; simp only [liveAt, cellsAt, and_true, Nat.zero_add, Nat.reduceAdd, World.size_alloc] at hL))
        have K3 := hid (HR.out _ (K2.out.set5 (y0 := .int .i64 s) (y1 := .int .u64 f) (y2 := .int .u64 t) (y3 := .int .i64 P2) (y4 := .int .i64 L2) hB3 (by simp)))
        clear hL K2 K1 hl ca cw cw2 HR
        go_roundw
        case rel => first | exact ⟨k + 1, by omega, by go_num, K3⟩ | ((repeat apply Exists.intro); exact ⟨⟨k + 1, by omega, by go_num, K3⟩, rfl⟩)
        case measure => simp [intOf]; omega
    · have hkb : decide ((k : Int) < 2 * F) = false := decide_eq_false hlt
      rw [show phF F k = 3 from by unfold phF; rw [if_neg (by omega), if_neg (by omega)], show lfF F k = 0 from by unfold lfF; rw [if_neg (by omega), if_neg (by omega)]] at hl
      have cw := hid (fun w => wan_any s f t 3 0 w)
      rw [show wan f t 3 = (t, true) from rfl] at cw
      have ca := hid (fun w => adv_any s f t 3 0 F w (by omega))
      rw [show adv t 3 0 F = (3, 0) from by unfold adv; rw [if_neg (by omega)]] at ca
      have hL := hl.out.facts
      simp only [liveAt, cellsAt, and_true, Nat.zero_add, Nat.reduceAdd, World.size_alloc] at hL
      go_wp2_with (go_at_call 41; (with_reducible refine (cw.out _).mono ?_); rintro e v1 ⟨rfl, hb⟩; have K1 := hid (hl.out.kept hb); clear hb hL hl)
      have hl := K1.out
      have hc := cellsM hl
      have hl := hl.drew
      have hc := cellsM hl
      clear K1
      go_region_held3 (fun w' => w'.cell? ⟨B, 0, none⟩ = some (.int .i64 s) ∧ w'.cell? ⟨B, 1, none⟩ = some (.int .u64 f) ∧ w'.cell? ⟨B, 2, none⟩ = some (.int .u64 t) ∧ w'.cell? ⟨B, 3, none⟩ = some (.int .i64 3) ∧ w'.cell? ⟨B, 4, none⟩ = some (.int .i64 0)) (first | assumption | exact cellsM (by assumption)) (first
        | (go_at_call 39; (with_reducible refine (ca.out _).mono ?_); rintro e w8 ⟨rfl, hb⟩; have hl := Lv.kept (by assumption) hb; clear hb))
      all_goals go_wp2_with fail
      all_goals go_ret
      all_goals exact ⟨rfl, hl.below⟩
end Go.Proofs.Ytnfkcfogmficfaa
