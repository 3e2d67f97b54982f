/- New limiters, on both sides. No statement is proved here. -/
import Derived.Test.YtbcifmddbhnkhaaLimit
namespace Go.Proofs.Ytbcifmddbhnkhaa
open Go.ChangeShapes Go.WideShapes Go.ChangeAt Go.RowKit
set_option linter.unusedVariables false
set_option linter.unusedSimpArgs false

set_option maxHeartbeats 4000000 in
theorem lnew_any (t r : Int) (w : World) (ht : 1 ≤ t ∧ t ≤ 8388607) (hr : 1 ≤ r ∧ r ≤ 65536) :
    Calls Try.prog 15 #[.int .i64 t, .int .i64 r] w fun e w' => e = .returned (.tuple #[.agg #[.int .i64 t, .int .i64 r, .int .i64 65536], .int .i64 0]) ∧ Below w.heap.size w w' := by
  have c1 := hid (fun w => isThreshold_any t w)
  rw [thrB_iff.2 ht] at c1
  have c2 := hid (fun w => isRelease_any r w)
  rw [relB_iff.2 hr] at c2
  go_enter Try.func15, Try.ntmps15
  go_wp2_with (first | (go_at_call 30; (with_reducible refine (c1.out _).mono ?_); rintro e w1 ⟨rfl, rfl⟩) | (go_at_call 31; (with_reducible refine (c2.out _).mono ?_); rintro e w1 ⟨rfl, rfl⟩))
  refine bodyPost_ret (by simp [results, Try.results15, go_sem]; rfl) rfl ?_
  exact ⟨rfl, by go_grown⟩
set_option maxHeartbeats 4000000 in
theorem rlvalid_any (t r g : Int) (w : World) : Calls Try.prog 18 #[.agg #[.int .i64 t, .int .i64 r, .int .i64 g]] w fun e w' => e = .returned (.bool (limB t r g)) ∧ Below w.heap.size w w' := by
  go_enter Try.func18, Try.ntmps18
  go_wp2
  all_goals (go_ret; exact ⟨ret_lb (by unfold limB; rw [Bool.eq_iff_iff]; simp; try omega), by go_grown⟩)
set_option maxHeartbeats 4000000 in
theorem rlnew_any (t r : Int) (w : World) (ht : 1 ≤ t ∧ t ≤ 8388607) (hr : 1 ≤ r ∧ r ≤ 65536) :
    Calls Try.prog 16 #[.int .i64 t, .int .i64 r] w fun e w' => e = .returned (.tuple #[.agg #[.int .i64 t, .int .i64 r, .int .i64 65536], .int .i64 0]) ∧ Below w.heap.size w w' := by
  have c1 := hid (fun w => rlvalid_any t r 65536 w)
  rw [limB_iff.2 ⟨ht, hr, by omega⟩] at c1
  have HL0 := hid (Lv.alloc (vs := [.int .i64 t, .int .i64 r, .int .i64 65536]) (T := 23) (Lv.alloc (vs := [.int .i64 0, .int .i64 0, .int .i64 0]) (T := 23) (Lv.start w)))
  go_enter Try.func16, Try.ntmps16
  go_wp2_with fail
  (with_reducible refine (c1.out _).mono ?_); rintro e w1 ⟨rfl, hb⟩; have HL1 := hid (HL0.out.kept hb); clear hb HL0 c1
  have hL := HL1.out.facts
  simp only [liveAt, cellsAt, and_true, Nat.zero_add, Nat.reduceAdd, World.size_alloc] at hL
  go_wp2_with fail
  refine bodyPost_ret (by simp [results, Try.results16, go_sem, *]; rfl) rfl ?_
  exact ⟨rfl, by have := HL1.out.below; go_grown⟩
end Go.Proofs.Ytbcifmddbhnkhaa
