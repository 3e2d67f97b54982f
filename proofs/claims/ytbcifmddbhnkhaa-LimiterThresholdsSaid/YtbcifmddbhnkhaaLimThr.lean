/- LimiterThresholds: the walk. -/
import Derived.Test.YtbcifmddbhnkhaaLimSane
import Derived.Test.YtbcifmddbhnkhaaLimLaws
import Derived.Deep.QuietTactic
import Derived.BigQuiet
namespace Go.Proofs.Ytbcifmddbhnkhaa
open Go.ChangeShapes Go.WideShapes Go.ChangeAt Go.RowKit
set_option linter.unusedVariables false
set_option linter.unusedSimpArgs false

set_option maxRecDepth 100000 in
set_option maxHeartbeats 16000000 in
theorem limiterThresholds_walk (a : Option Addr) (len cap : Nat) (l : List Int) (th mo re fa : Int) (w : World) (hs : Sl .u8 w a len cap l) (hth : 0 ≤ th ∧ th ≤ 4294967295) (hmo : 0 ≤ mo ∧ mo ≤ 65535) (hre : 0 ≤ re ∧ re ≤ 65535) (hfa : 0 ≤ fa ∧ fa ≤ 65535) :
    Calls Try.prog 7 #[.slice a len cap, .int .u32 th, .int .u16 mo, .int .u16 re, .int .u16 fa] w fun e w' => e = .returned (.bool true) ∧ Below w.heap.size w w' := by
  have HS := hid hs
  obtain ⟨th0, th1⟩ := hth
  obtain ⟨mo0, mo1⟩ := hmo
  obtain ⟨re0, re1⟩ := hre
  obtain ⟨fa0, fa1⟩ := hfa
  clear hs
  go_enter Try.func7, Try.ntmps7
  go_wp2_with fail
  (with_reducible refine (sane_any _).mono ?_); rintro e w1 ⟨rfl, hb⟩; have H1 := hid ((Lx.start w).kept hb); clear hb
  go_wp2_with fail
  (with_reducible refine (new_any a len cap l _ (H1.out.slN HS.out)).mono ?_); rintro e w2 ⟨d, rfl, hd0, hdk, hb⟩; have hWd := Nat.le_trans H1.out.size hd0; have H2 := hid (H1.out.roll hb hdk); clear hb hdk hd0 H1 HS
  go_wp2_with fail
  (with_reducible refine (sums_w d 16 16 _ rfl H2.out.diceAt (by omega)).mono ?_); rintro e w5 ⟨v, l2, rfl, hla, hll, hls⟩; have H5 := hid (H2.out.next hla.lx.diceAt hla.lx.but); clear H2
  obtain ⟨a5, cap5, rfl, hsl, _⟩ := hla.sl hls.wf
  have HSL := hid hsl
  have HLL := hid hll
  have HLS := hid (fun s hs => (show -1099511627776 ≤ s ∧ s ≤ 1099511627776 by have := hls s hs; omega))
  clear hla hsl hll hls
  go_wp2_with fail
  have b1 : 1 ≤ 1 + th % 4000000 ∧ 1 + th % 4000000 ≤ 4000000 := by omega
  have b2 : 1 ≤ 1 + re % 30000 ∧ 1 + re % 30000 ≤ 30000 := by omega
  have b3 : 0 ≤ fa % 30000 ∧ fa % 30000 ≤ 29999 := by omega
  generalize 1 + th % 4000000 = T at *
  generalize 1 + re % 30000 = R at *
  obtain ⟨T0, T1⟩ := b1
  obtain ⟨R0, R1⟩ := b2
  obtain ⟨f0, f1⟩ := b3
  (with_reducible refine (lnew_any T R _ (by omega) (by omega)).mono ?_); rintro e w6 ⟨rfl, hb⟩
  have H6 := hid ((H5.out.kept hb).alloc (vs := [.int .i64 T, .int .i64 R, .int .i64 65536]) (T := 23))
  have HS6 := hid ((HSL.out.below hb).below (w' := w6.alloc (.cells #[.int .i64 T, .int .i64 R, .int .i64 65536] 23)) (by go_grown))
  clear hb H5 HSL
  go_upto_region 8 with (fail)
  generalize w6.alloc (.cells #[.int .i64 T, .int .i64 R, .int .i64 65536] 23) = W6 at *
  generalize w6.heap.size = B6 at *
  go_wp2_with fail
  have b4 : 1 ≤ T + mo ∧ T + mo ≤ 8388607 ∧ T ≤ T + mo := by omega
  have b5 : 1 ≤ R + fa % 30000 ∧ R + fa % 30000 ≤ 65536 ∧ R ≤ R + fa % 30000 := by omega
  generalize T + mo = T' at *
  generalize R + fa % 30000 = R' at *
  obtain ⟨t0, t1, t2⟩ := b4
  obtain ⟨r0, r1, r2⟩ := b5
  (with_reducible refine (lnew_any T' R' _ (by omega) (by omega)).mono ?_); rintro e w7 ⟨rfl, hb⟩
  have H7 := hid ((H6.out.kept hb).alloc (vs := [.int .i64 T', .int .i64 R', .int .i64 65536]) (T := 23))
  have HS7 := hid ((HS6.out.below hb).below (w' := w7.alloc (.cells #[.int .i64 T', .int .i64 R', .int .i64 65536] 23)) (by go_grown))
  clear hb H6 HS6
  go_upto_region 9 with (fail)
  generalize w7.alloc (.cells #[.int .i64 T', .int .i64 R', .int .i64 65536] 23) = W7 at *
  generalize w7.heap.size = B7 at *
  have hL := H7.out.facts
  simp only [liveAt, cellsAt, and_true, Nat.zero_add, Nat.reduceAdd] at hL
  go_wp2_with fail
  (with_reducible refine (lrun_w T R 65536 1 1 16 16 a5 cap5 l2 _ rfl (by omega) (by omega) (by omega) (by omega) (by omega) (by omega) HS7.out HLS.out).mono ?_); rintro e w8 ⟨G8, rfl, hB, hGs, hb⟩
  clear hL
  have H8 := hid (((H7.out.keptNew hb hB hGs).alloc (vs := [.int .i64 1, .slice (some ⟨G8, 0, none⟩) 16 16]) (T := 36)).alloc (vs := [.int .i64 T, .int .i64 R, .int .i64 (runL 1 T R 16 65536 l2).2]) (T := 23))
  have HS8 := hid (HS7.out.below ((hb.alloc hb.size (.cells #[.int .i64 1, .slice (some ⟨G8, 0, none⟩) 16 16] 36)).alloc (by have := hb.size; simp; omega) (.cells #[.int .i64 T, .int .i64 R, .int .i64 (runL 1 T R 16 65536 l2).2] 23)))
  clear hb hB hGs H7 HS7
  simp only [World.size_alloc] at H8
  obtain ⟨g8, hg8⟩ : ∃ g8, (runL 1 T R 16 65536 l2).2 = g8 := ⟨_, rfl⟩
  rw [hg8] at H8 HS8
  simp only [hg8]
  clear hg8
  go_upto_region 10 with (fail)
  generalize (w8.alloc (.cells #[.int .i64 1, .slice (some ⟨G8, 0, none⟩) 16 16] 36)).alloc (.cells #[.int .i64 T, .int .i64 R, .int .i64 g8] 23) = W8 at *
  generalize w8.heap.size + 1 = B9 at *
  generalize w8.heap.size = B8 at *
  have hL := H8.out.facts
  simp only [liveAt, cellsAt, and_true, Nat.zero_add, Nat.reduceAdd] at hL
  go_wp2_with fail
  (with_reducible refine (lrun_w T' R' 65536 1 1 16 16 a5 cap5 l2 _ rfl (by omega) (by omega) (by omega) (by omega) (by omega) (by omega) HS8.out HLS.out).mono ?_); rintro e w9 ⟨G9, rfl, hB, hGs, hb⟩
  clear hL
  have H9 := hid (((H8.out.keptNew hb hB hGs).alloc (vs := [.int .i64 1, .slice (some ⟨G9, 0, none⟩) 16 16]) (T := 36)).alloc (vs := [.int .i64 T', .int .i64 R', .int .i64 (runL 1 T' R' 16 65536 l2).2]) (T := 23))
  have HS9 := hid (HS8.out.below ((hb.alloc hb.size (.cells #[.int .i64 1, .slice (some ⟨G9, 0, none⟩) 16 16] 36)).alloc (by have := hb.size; simp; omega) (.cells #[.int .i64 T', .int .i64 R', .int .i64 (runL 1 T' R' 16 65536 l2).2] 23)))
  clear hb hB hGs H8 HS8
  simp only [World.size_alloc] at H9
  have hmo := hid (fun i (hi : i < 16 * 1) => runL_mono 1 (t := T) (t' := T') (r := R) (r' := R') ⟨T0, by omega⟩ t2 t1 ⟨R0, by omega⟩ r2 r1 16 65536 65536 l2 (by omega) (by omega) (by omega) (by rw [HLL.out]; omega) HLS.out i hi)
  have hle := hid (runL_len 1 T R 16 65536 l2 (by rw [HLL.out]; omega))
  have hle2 := hid (runL_len 1 T' R' 16 65536 l2 (by rw [HLL.out]; omega))
  generalize (runL 1 T' R' 16 65536 l2).2 = g9 at *
  generalize (runL 1 T' R' 16 65536 l2).1 = ys at *
  generalize (runL 1 T R 16 65536 l2).1 = xs at *
  have hL := H9.out.facts
  simp only [liveAt, cellsAt, and_true, Nat.zero_add, Nat.reduceAdd, World.size_alloc] at hL
  go_wp2_with fail
  clear hL
  generalize (w9.alloc (.cells #[.int .i64 1, .slice (some ⟨G9, 0, none⟩) 16 16] 36)).alloc (.cells #[.int .i64 T', .int .i64 R', .int .i64 g9] 23) = W9 at *
  generalize w9.heap.size + 1 = B11 at *
  generalize w9.heap.size = B10 at *
  go_loopw [105] (fun v wr => ∃ x : Nat, x ≤ 16 ∧ v = .int .i64 x ∧ Hid (Lx w wr (some d) [(B11, [.int .i64 T', .int .i64 R', .int .i64 g9], 23), (B10, [.int .i64 1, .slice (some ⟨G9, 0, none⟩) 16 16], 36), (G9, ys.map (Value.int .i32), 21), (B9, [.int .i64 T, .int .i64 R, .int .i64 g8], 23), (B8, [.int .i64 1, .slice (some ⟨G8, 0, none⟩) 16 16], 36), (G8, xs.map (Value.int .i32), 21), (B7, [.int .i64 T', .int .i64 R', .int .i64 65536], 23), (B6, [.int .i64 T, .int .i64 R, .int .i64 65536], 23)]) ∧ Hid (Sl .i64 wr a5 16 cap5 l2)) (fun v _ => 16 - (intOf v).toNat)
  case atStart => exact ⟨0, by omega, rfl, H9, HS9⟩
  case round =>
    obtain ⟨x, hx, rfl, HX, HSX⟩ := hrel
    clear H9 HS9
    by_cases hlt : x < 16
    · have hkb : decide ((x : Int) < 16) = true := by simp; omega
      have hkz : (x : Int) < 16 := by omega
      rcases HSX.out.2.2.2.2.2 with h6 | ⟨b5, off5, rfl, hbl, hcs⟩
      · omega
      have g0 := hcs x hlt
      have c0 : wr.cell? ⟨G9, x, none⟩ = some (.int .i32 (ys.getD x 0)) := HX.out.cell 2 x rfl (by rw [List.getElem?_map, List.getElem?_eq_getElem (by rw [hle2.out]; omega), List.getD_eq_getElem?_getD, List.getElem?_eq_getElem (by rw [hle2.out]; omega)]; rfl)
      have c1 : wr.cell? ⟨G8, x, none⟩ = some (.int .i32 (xs.getD x 0)) := HX.out.cell 5 x rfl (by rw [List.getElem?_map, List.getElem?_eq_getElem (by rw [hle.out]; omega), List.getD_eq_getElem?_getD, List.getElem?_eq_getElem (by rw [hle.out]; omega)]; rfl)
      obtain ⟨m1, m2⟩ := hmo.out x (by omega)
      have hL := HX.out.facts
      simp only [liveAt, cellsAt, and_true, Nat.zero_add, Nat.reduceAdd] at hL
      obtain ⟨s, hs9⟩ : ∃ s, l2.getD x 0 = s := ⟨_, rfl⟩
      rw [hs9] at g0 m1 m2
      clear hs9
      generalize ys.getD x 0 = y at *
      generalize xs.getD x 0 = z at *
      have c2 : wr.cell? ⟨G9, 0 + x, none⟩ = some (.int .i32 y) := by rw [Nat.zero_add]; exact c0
      have c3 : wr.cell? ⟨G8, 0 + x, none⟩ = some (.int .i32 z) := by rw [Nat.zero_add]; exact c1
      clear hcs
      rcases Int.lt_trichotomy s 0 with hs | rfl | hs
      · have e1 := m2 (by omega)
        clear m1 m2
        have d1 : decide (0 ≤ s) = false := decide_eq_false (by omega)
        have d2 : decide (s ≤ 0) = true := decide_eq_true (by omega)
        have d3 : decide (z < y) = false := decide_eq_false (by omega)
        go_upto_region 16 with (fail)
        go_quiet (fail)
        have K1 := hid (HX.out.kept (show Below wr.heap.size wr (wr.drewN nq) from ⟨rfl, rfl, rfl, Nat.le_refl _, fun _ _ => rfl⟩))
        have K2 := hid (HSX.out.below (show Below wr.heap.size wr (wr.drewN nq) from ⟨rfl, rfl, rfl, Nat.le_refl _, fun _ _ => rfl⟩))
        clear hL
        go_wp2_with fail
        go_roundw
        case rel => exact ⟨x + 1, by omega, by go_num, K1, K2⟩
        case measure => simp [intOf] <;> omega
      · have e1 := m2 (by omega)
        have e2 := m1 (by omega)
        clear m1 m2
        have d3 : decide (z < y) = false := decide_eq_false (by omega)
        have d4 : decide (y < z) = false := decide_eq_false (by omega)
        go_upto_region 16 with (fail)
        go_quiet (fail)
        have K1 := hid (HX.out.kept (show Below wr.heap.size wr (wr.drewN nq) from ⟨rfl, rfl, rfl, Nat.le_refl _, fun _ _ => rfl⟩))
        have K2 := hid (HSX.out.below (show Below wr.heap.size wr (wr.drewN nq) from ⟨rfl, rfl, rfl, Nat.le_refl _, fun _ _ => rfl⟩))
        clear hL
        go_wp2_with fail
        go_roundw
        case rel => exact ⟨x + 1, by omega, by go_num, K1, K2⟩
        case measure => simp [intOf] <;> omega
      · have e1 := m1 (by omega)
        clear m1 m2
        have d1 : decide (0 ≤ s) = true := decide_eq_true (by omega)
        have d2 : decide (s ≤ 0) = false := decide_eq_false (by omega)
        have d3 : decide (y < z) = false := decide_eq_false (by omega)
        go_upto_region 16 with (fail)
        go_quiet (fail)
        have K1 := hid (HX.out.kept (show Below wr.heap.size wr (wr.drewN nq) from ⟨rfl, rfl, rfl, Nat.le_refl _, fun _ _ => rfl⟩))
        have K2 := hid (HSX.out.below (show Below wr.heap.size wr (wr.drewN nq) from ⟨rfl, rfl, rfl, Nat.le_refl _, fun _ _ => rfl⟩))
        clear hL
        go_wp2_with fail
        go_roundw
        case rel => exact ⟨x + 1, by omega, by go_num, K1, K2⟩
        case measure => simp [intOf] <;> omega
    · have hkb : decide ((x : Int) < 16) = false := by simp; omega
      obtain rfl : x = 16 := by omega
      go_wp2_with fail
      go_ret
      have h9 := HX.out
      exact ⟨rfl, h9.os, h9.tape, h9.output, h9.size, fun j hj => h9.block j hj (by simp; omega)⟩
end Go.Proofs.Ytbcifmddbhnkhaa
