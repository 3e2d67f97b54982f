/- LimiterHolds: the walk. -/
import Derived.Test.YtbcifmddbhnkhaaLimSane
import Derived.Test.YtbcifmddbhnkhaaLimLaws
namespace Go.Proofs.Ytbcifmddbhnkhaa
open Go.ChangeShapes Go.WideShapes Go.ChangeAt Go.RowKit
set_option linter.unusedVariables false
set_option linter.unusedSimpArgs false

set_option maxRecDepth 100000 in
set_option maxHeartbeats 16000000 in
theorem limiterHolds_walk (a : Option Addr) (len cap : Nat) (l : List Int) (w : World) (hs : Sl .u8 w a len cap l) :
    Calls Try.prog 4 #[.slice a len cap] w fun e w' => e = .returned (.bool true) ∧ Below w.heap.size w w' := by
  have HS := hid hs
  clear hs
  go_enter Try.func4, Try.ntmps4
  go_wp2_with fail
  (with_reducible refine (sane_any _).mono ?_); rintro e w1 ⟨rfl, hb⟩; have H1 := hid ((Lx.start w).kept hb); clear hb
  go_wp2_with fail
  (with_reducible refine (new_any a len cap l _ (H1.out.slN HS.out)).mono ?_); rintro e w2 ⟨d, rfl, hd0, hdk, hb⟩; have hWd := Nat.le_trans H1.out.size hd0; have H2 := hid (H1.out.roll hb hdk); clear hb hdk hd0 H1 HS
  go_wp2_with fail
  (with_reducible refine (made_any d _ H2.out.diceAt).mono ?_); rintro e w3 ⟨⟨t, r, g, rfl, hT, hR, hG⟩, hk, hb⟩; have H3 := hid ((H2.out.next hk hb).alloc (vs := [.int .i64 t, .int .i64 r, .int .i64 g]) (T := 23)); clear hk hb H2
  have HT := hid hT; have HR := hid hR; have HG := hid hG; clear hT hR hG
  go_upto_region 5 with (fail)
  generalize w3.alloc (.cells #[.int .i64 t, .int .i64 r, .int .i64 g] 23) = W3 at *
  generalize w3.heap.size = B at *
  go_wp2_with fail
  (with_reducible refine (next_any d 20 (by omega) (by omega) _ H3.out.diceAt).mono ?_); rintro e w4 ⟨⟨k, rfl, k0, k1⟩, hk, hb⟩; have H4 := hid (H3.out.next hk hb); clear hk hb H3
  obtain ⟨k, rfl⟩ : ∃ n : Nat, k = n := ⟨k.toNat, by omega⟩
  go_wp2_with fail
  (with_reducible refine (sums_w d (2 * k) _ _ (by omega) H4.out.diceAt (by omega)).mono ?_); rintro e w5 ⟨v, l2, rfl, hla, hll, hls⟩; have H5 := hid (H4.out.next hla.lx.diceAt hla.lx.but); clear H4
  obtain ⟨a5, cap5, rfl, hsl, _⟩ := hla.sl hls.wf
  have HSL := hid hsl
  have HLL := hid hll
  have HLS := hid (fun s hs => (show -1099511627776 ≤ s ∧ s ≤ 1099511627776 by have := hls s hs; omega))
  clear hla hsl hll hls
  have hL := H5.out.facts
  simp only [liveAt, cellsAt, and_true, Nat.zero_add, Nat.reduceAdd] at hL
  go_wp2_with fail
  (with_reducible refine (lrun_w t r g 2 2 k (2 * k) a5 cap5 l2 _ rfl (by omega) HT.out HR.out HG.out (by omega) (by omega) HSL.out HLS.out).mono ?_); rintro e w6 ⟨G, rfl, hB, hGs, hb⟩
  clear hL
  have H7 := hid (((H5.out.keptNew hb hB hGs).alloc (vs := [.int .i64 2, .slice (some ⟨G, 0, none⟩) (2 * k) (2 * k)]) (T := 36)).alloc (vs := [.int .i64 t, .int .i64 r, .int .i64 (runL 2 t r k g l2).2]) (T := 23))
  have HS7 := hid (HSL.out.below ((hb.alloc hb.size (.cells #[.int .i64 2, .slice (some ⟨G, 0, none⟩) (2 * k) (2 * k)] 36)).alloc (by have := hb.size; simp; omega) (.cells #[.int .i64 t, .int .i64 r, .int .i64 (runL 2 t r k g l2).2] 23)))
  have hat := hid (fun i (hi : i < k * 2) => runL_at 2 HT.out HR.out k g l2 HG.out (by rw [HLL.out]; omega) HLS.out i hi)
  have hle := hid (runL_len 2 t r k g l2 (by rw [HLL.out]; omega))
  obtain ⟨q0, q1⟩ := runL_gain 2 HT.out HR.out k g l2 HG.out HLS.out
  clear hb hB hGs H5 HSL
  generalize (runL 2 t r k g l2).2 = gm at *
  generalize (runL 2 t r k g l2).1 = outs at *
  have hL := H7.out.facts
  simp only [liveAt, cellsAt, and_true, Nat.zero_add, Nat.reduceAdd, World.size_alloc] at hL
  have z1 : decide (gm < 0) = false := decide_eq_false (by omega)
  have z2 : decide (65536 < gm) = false := decide_eq_false (by omega)
  go_wp2_with fail
  clear hL z1 z2
  generalize (w6.alloc (.cells #[.int .i64 2, .slice (some ⟨G, 0, none⟩) (2 * k) (2 * k)] 36)).alloc (.cells #[.int .i64 t, .int .i64 r, .int .i64 gm] 23) = W7 at *
  go_loopw [53] (fun v wr => ∃ x : Nat, x ≤ 2 * k ∧ v = .int .i64 x ∧ wr = W7) (fun v _ => 2 * k - (intOf v).toNat)
  case atStart => exact ⟨0, by omega, rfl, rfl⟩
  case round =>
    obtain ⟨x, hx, rfl, rfl⟩ := hrel
    by_cases hlt : x < 2 * k
    · have hkb : decide ((x : Int) < ((2 * k : Nat) : Int)) = true := by simp; omega
      have hkz : (x : Int) < ((2 * k : Nat) : Int) := by omega
      have hkz2 : (x : Int) < 2 * (k : Int) := by omega
      rcases HS7.out.2.2.2.2.2 with h6 | ⟨b5, off5, rfl, hbl, hcs⟩
      · omega
      have g0 := hcs x hlt
      obtain ⟨N, n0, n1, n2, n3, n4⟩ := hat.out x (by omega)
      have c0 : wr.cell? ⟨G, x, none⟩ = some (.int .i32 (outs.getD x 0)) := H7.out.cell 2 x rfl (by rw [List.getElem?_map, List.getElem?_eq_getElem (by rw [hle.out]; omega), List.getD_eq_getElem?_getD, List.getElem?_eq_getElem (by rw [hle.out]; omega)]; rfl)
      have hh := outL_holds (t := t) n0 n1 n2 n3 HT.out.2
      rw [← n4] at hh
      have hsb := HLS.out _ (getD_mem' (show x < l2.length by rw [HLL.out]; omega))
      have ht2 := HT.out.2
      have hL := H7.out.facts
      simp only [liveAt, cellsAt, and_true, Nat.zero_add, Nat.reduceAdd] at hL
      generalize outs.getD x 0 = y at *
      generalize l2.getD x 0 = s at *
      obtain ⟨h1, h2, h3, h4⟩ := hh
      have c1 : wr.cell? ⟨G, 0 + x, none⟩ = some (.int .i32 y) := by rw [Nat.zero_add]; exact c0
      have d1 : decide (t < y) = false := decide_eq_false (by omega)
      have d2 : decide (t < -y) = false := decide_eq_false (by omega)
      clear hcs n4 n2 n3
      rcases Int.lt_trichotomy y 0 with hy | rfl | hy
      · have e1 := h4 hy
        have d3 : decide (0 < y) = false := decide_eq_false (by omega)
        have d4 : decide (y < s) = false := decide_eq_false (by omega)
        have d5 : decide (y < 0) = true := decide_eq_true (by omega)
        clear h3 h4
        go_wp2_with fail
        go_roundw
        case rel => exact ⟨x + 1, by omega, by go_num, trivial⟩
        case measure => simp [intOf] <;> omega
      · clear h3 h4
        go_wp2_with fail
        go_roundw
        case rel => exact ⟨x + 1, by omega, by go_num, trivial⟩
        case measure => simp [intOf] <;> omega
      · have e1 := h3 hy
        have d3 : decide (0 < y) = true := decide_eq_true (by omega)
        have d4 : decide (s < y) = false := decide_eq_false (by omega)
        have d5 : decide (y < 0) = false := decide_eq_false (by omega)
        clear h3 h4
        go_wp2_with fail
        go_roundw
        case rel => exact ⟨x + 1, by omega, by go_num, trivial⟩
        case measure => simp [intOf] <;> omega
    · have hkb : decide ((x : Int) < ((2 * k : Nat) : Int)) = false := by simp; omega
      obtain rfl : x = 2 * k := by omega
      go_wp2_with fail
      go_ret
      have h9 := H7.out
      exact ⟨rfl, h9.os, h9.tape, h9.output, h9.size, fun j hj => h9.block j hj (by simp; omega)⟩
end Go.Proofs.Ytbcifmddbhnkhaa
