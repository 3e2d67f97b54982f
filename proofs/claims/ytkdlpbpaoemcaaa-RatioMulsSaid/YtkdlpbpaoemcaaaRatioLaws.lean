/- The laws of ratios return true: the walks. -/
import Derived.Test.YtkdlpbpaoemcaaaRatioMake
import Derived.Test.YtkdlpbpaoemcaaaRatioFloor
namespace Go.Proofs.Ytkdlpbpaoemcaaa
open Go.ChangeShapes Go.WideShapes Go.ChangeAt Go.RowKit
set_option linter.unusedVariables false
set_option linter.unusedSimpArgs false

set_option maxHeartbeats 4000000 in
theorem made03_any (a b : Int) (w : World) :
    Calls Try.prog 15 #[.int .i64 a, .int .i64 b] w fun e w' => e = .returned (.agg #[.int .i64 (mkV (termV a) (termV b)).1.1, .int .i64 (mkV (termV a) (termV b)).1.2]) ∧ Below w.heap.size w w' := by
  have b1 := termV_bd a
  have b2 := termV_bd b
  have c1 := hid (fun w => term_law a w)
  have c2 := hid (fun w => term_law b w)
  have c3 := hid (fun w => rmake_any (termV a) (termV b) (by omega) (by omega) w)
  clear b1 b2
  generalize (mkV (termV a) (termV b)).1.1 = X at *
  generalize (mkV (termV a) (termV b)).1.2 = Y at *
  generalize (mkV (termV a) (termV b)).2 = Z at *
  generalize termV a = A at *
  generalize termV b = B at *
  go_enter Try.func15, Try.ntmps15
  go_wp2_with (first
    | (go_at_call 31; (with_reducible refine (c1.out _).mono ?_); rintro e w1 ⟨rfl, rfl⟩)
    | (go_at_call 31; (with_reducible refine (c2.out _).mono ?_); rintro e w1 ⟨rfl, rfl⟩)
    | (go_at_call 12; (with_reducible refine (c3.out _).mono ?_); rintro e w2 ⟨rfl, hb⟩; have HL := hid (Lv.kept (Lv.alloc (vs := [.int .i64 0, .int .i64 0]) (T := 23) (Lv.start w)) hb); clear hb; have hL := HL.out.facts; simp only [liveAt, cellsAt, and_true, Nat.zero_add, Nat.reduceAdd, World.size_alloc] at hL; have hz := HL.out.lt; have hz1 : w.heap.size < w2.heap.size + 1 := by omega))
  have hbl := HL.out.below
  refine bodyPost_ret (by simp [results, Try.results15, go_sem, *]; try rfl) rfl ?_
  exact ⟨rfl, by go_grown⟩
theorem made_ok (a b : Int) : ratV (mkV (termV a) (termV b)).1.1 (mkV (termV a) (termV b)).1.2 = true := by
  have b1 := termV_bd a
  have b2 := termV_bd b
  have q := quot_pos (a := termV a) (b := termV b) b1.1 b2.1
  have g := quot_coprime (a := termV a) (b := termV b) b1.1
  have e : mkV (termV a) (termV b) = ((termV a / Int.gcd (termV a) (termV b), termV b / Int.gcd (termV a) (termV b)), 0) := by
    unfold mkV; rw [if_neg (by omega), if_pos (by omega)]
  rw [e]
  show ratV (termV a / Int.gcd (termV a) (termV b)) (termV b / Int.gcd (termV a) (termV b)) = true
  exact ratV_true.2 ⟨by omega, by omega, g⟩
set_option maxRecDepth 100000 in
set_option maxHeartbeats 4000000 in
theorem sane03_any (w : World) :
    Calls Try.prog 10 #[] w fun e w' => e = .returned (.bool true) ∧ Below w.heap.size w w' := by
  have c1 := fun w => make_any 44100 48000 (by omega) (by omega) w
  rw [show mkV 44100 48000 = ((147, 160), 0) from by decide +kernel] at c1
  have hr : ratV 147 160 = true := by decide +kernel
  have c2 := fun w => floor_any 1000 147 160 (by omega) (by omega) hr (by omega) (by omega) w
  have c3 := fun w => ceil_any 1000 147 160 (by omega) (by omega) hr (by omega) (by omega) w
  have c4 := fun w => rest_any 1000 147 160 (by omega) (by omega) hr (by omega) (by omega) w
  rw [show (1000 * 147 / 160 : Int) = 918 from by decide] at c2
  rw [show (-((-(1000 * 147)) / 160) : Int) = 919 from by decide] at c3
  rw [show (1000 * 147 % 160 : Int) = 120 from by decide] at c4
  have C1 := hid c1; have C2 := hid c2; have C3 := hid c3; have C4 := hid c4
  clear c1 c2 c3 c4
  go_enter Try.func10, Try.ntmps10
  go_wp2_with fail
  (with_reducible refine (C1.out _).mono ?_); rintro e w1 ⟨rfl, hb⟩; have HL := hid (Lv.alloc (vs := [.int .i64 147, .int .i64 160]) (T := 23) (Lv.kept (Lv.start w) hb)); clear hb
  have hL := HL.out.facts
  simp only [liveAt, cellsAt, and_true, Nat.zero_add, Nat.reduceAdd, World.size_alloc] at hL
  go_wp2_with fail
  clear hL
  (with_reducible refine (C2.out _).mono ?_); rintro e w2 ⟨rfl, hb⟩; have HL2 := hid (HL.out.kept hb); clear hb
  have hL := HL2.out.facts
  simp only [liveAt, cellsAt, and_true, Nat.zero_add, Nat.reduceAdd, World.size_alloc] at hL
  go_wp2_with fail
  clear hL
  (with_reducible refine (C3.out _).mono ?_); rintro e w3 ⟨rfl, hb⟩; have HL3 := hid (HL2.out.kept hb); clear hb
  have hL := HL3.out.facts
  simp only [liveAt, cellsAt, and_true, Nat.zero_add, Nat.reduceAdd, World.size_alloc] at hL
  go_wp2_with fail
  clear hL
  (with_reducible refine (C4.out _).mono ?_); rintro e w4 ⟨rfl, hb⟩; have HL4 := hid (HL3.out.kept hb); clear hb
  have hL := HL4.out.facts
  simp only [liveAt, cellsAt, and_true, Nat.zero_add, Nat.reduceAdd, World.size_alloc] at hL
  go_wp2
  go_ret
  exact ⟨rfl, HL4.out.below⟩
end Go.Proofs.Ytkdlpbpaoemcaaa
