/- PhaseGalois: the walk. No statement is proved here. -/
import Derived.Test.YtmgkbgnjpgkdiaaPhLaws
namespace Go.Proofs.Ytmgkbgnjpgkdiaa
open Go.ChangeShapes Go.WideShapes Go.ChangeAt Go.RowKit
set_option linter.unusedVariables false
set_option linter.unusedSimpArgs false

set_option maxRecDepth 100000 in
set_option maxHeartbeats 16000000 in
theorem phaseGalois_walk (a : Option Addr) (len cap : Nat) (l : List Int) (x y : Int) (w : World) (hs : Sl .u8 w a len cap l) (hx : 0 ≤ x ∧ x ≤ 65535) (hy : 0 ≤ y ∧ y ≤ 65535) :
    Calls Try.prog 7 #[.slice a len cap, .int .u16 x, .int .u16 y] w fun e w' => e = .returned (.bool true) ∧ Below w.heap.size w w' := by
  have HS := hid hs
  clear hs
  obtain ⟨x0, x1⟩ := hx
  obtain ⟨y0, y1⟩ := hy
  have m0 := Int.emod_nonneg x (show (3000 : Int) ≠ 0 by omega)
  have m1 := Int.emod_lt_of_pos x (show (0 : Int) < 3000 by omega)
  have HL0 := hid (Lv.start w)
  go_enter Try.func7, Try.ntmps7
  go_wp2_with fail
  (with_reducible refine (sane_any _).mono ?_); rintro e w1 ⟨rfl, hb⟩; have HL1 := hid (HL0.out.kept hb); clear hb HL0
  go_wp2_with fail
  (with_reducible refine (made_any a len cap l _ (HS.out.below HL1.out.below)).mono ?_); rintro e w2 ⟨⟨n, d, aa, p, f, rfl, hM⟩, hb⟩; have HL2 := hid (Lv.alloc (vs := [.int .i64 n, .int .i64 d, .int .i64 aa, .int .i64 p, .int .i64 f]) (T := 25) (HL1.out.kept hb)); have hsz2 := (HL1.out.kept hb).size; clear hb HL1
  go_upto_region 5 with (fail)
  generalize w2.alloc (.cells #[.int .i64 n, .int .i64 d, .int .i64 aa, .int .i64 p, .int .i64 f] 25) = W3 at *
  generalize w2.heap.size = BP at *
  generalize x % 3000 = k at *
  obtain ⟨hv, hp2⟩ := hM
  have hP := phV_P hv
  have hs := step_bd hP.1.1 hP.1.2 hP.2.2.1.1 hP.2.2.1.2
  have hmk : IntKind.i64.wrap (k + 1) = k + 1 := IntWalk.i64_in _ (by omega)
  have c1 := hid (fun w => pneed_ok n d aa p f k hv m0 (by omega) w)
  have c2 := hid (fun w => pmake_ok n d aa p f y hv y0 (by omega) w)
  have c3 := hid (fun w => pneed_ok n d aa p f (k + 1) hv (by omega) (by omega) w)
  have h1 := mkN_char (n := n) (d := d) (a := aa) (f := f) (m := y) (by omega) hP.2.1.1 hP.2.2.2.2.1 y0 k m0 (by omega)
  have h2 := nd_mono (n := n) (d := d) (a := aa) (f := f) (by omega) hP.2.1.1 hP.2.2.2.2.1 m0 (show k ≤ k + 1 by omega)
  have h3 := nd_nonneg (n := n) (d := d) (a := aa) (f := f) (k := k) (by omega) hP.2.1.1 hP.2.2.2.2.1 m0
  clear hP hs hv hp2 x0 x1
  generalize nd n d aa f k = N1 at *
  generalize nd n d aa f (k + 1) = N2 at *
  generalize mkN n d aa f y = C at *
  have hL := HL2.out.facts
  simp only [liveAt, cellsAt, and_true, Nat.zero_add, Nat.reduceAdd, World.size_alloc] at hL
  go_wp2_with fail
  clear hL
  (with_reducible refine (c1.out _).mono ?_); rintro e w3 ⟨rfl, hb⟩; have HL3 := hid (HL2.out.kept hb); clear hb HL2
  have hL := HL3.out.facts
  simp only [liveAt, cellsAt, and_true, Nat.zero_add, Nat.reduceAdd, World.size_alloc] at hL
  go_wp2_with fail
  clear hL
  (with_reducible refine (c2.out _).mono ?_); rintro e w4 ⟨rfl, hb⟩; have HL4 := hid (HL3.out.kept hb); clear hb HL3
  have hL := HL4.out.facts
  simp only [liveAt, cellsAt, and_true, Nat.zero_add, Nat.reduceAdd, World.size_alloc] at hL
  go_wp2_with fail
  clear hL
  (with_reducible refine (c3.out _).mono ?_); rintro e w5 ⟨rfl, hb⟩; have HL5 := hid (HL4.out.kept hb); clear hb HL4
  have e2 : decide (N1 ≤ N2) = true := decide_eq_true h2
  have e3 : decide (0 ≤ N1) = true := decide_eq_true h3
  by_cases hq : N1 ≤ y
  · have e4 : decide (N1 ≤ y) = true := decide_eq_true hq
    have e5 : decide (k ≤ (C : Int)) = true := decide_eq_true (h1.1 hq)
    clear h1 h2 h3 hq
    go_wp2_with fail
    go_ret
    exact ⟨rfl, HL5.out.below⟩
  · have e4 : decide (N1 ≤ y) = false := decide_eq_false hq
    have e5 : decide (k ≤ (C : Int)) = false := decide_eq_false (mt h1.2 hq)
    clear h1 h2 h3 hq
    go_wp2_with fail
    go_ret
    exact ⟨rfl, HL5.out.below⟩
end Go.Proofs.Ytmgkbgnjpgkdiaa
