/- What moves become: no statement is proved here. -/
import Derived.Test.YtnfkcfogmficfaaMod
import Derived.Test.YtnfkcfogmficfaaLive
namespace Go.Proofs.Ytnfkcfogmficfaa
open Go.ChangeShapes Go.WideShapes Go.ChangeAt Go.RowKit
set_option linter.unusedVariables false

/-- phase and rest of a move after a quantum, of one that begins, and where it is heard -/
def adv (t p l n : Int) : Int × Int := if (p = 1 ∨ p = 2) ∧ 1 ≤ l ∧ 1 ≤ n ∧ n ≤ 4096 then (if l = 1 then (if p = 1 ∧ t ≠ 0 then (2, n) else (3, 0)) else (p, l - 1)) else (3, 0)
def beg (f t n : Int) : Int × Int := if (f = 0 ∧ t = 0) ∨ n < 1 ∨ 4096 < n then (3, 0) else if f = 0 then (2, n) else (1, n)
def wan (f t p : Int) : Int × Bool := if p = 1 then (f, false) else if p = 2 ∨ p = 3 then (t, true) else (0, false)
set_option maxHeartbeats 4000000 in
theorem adv_any (s f t p l n : Int) (w : World) (hl : -9223372036854775808 ≤ l ∧ l ≤ 9223372036854775807) :
    Calls Try.prog 39 #[.agg #[.int .i64 s, .int .u64 f, .int .u64 t, .int .i64 p, .int .i64 l], .int .i64 n] w fun e w' => e = .returned (.agg #[.int .i64 s, .int .u64 f, .int .u64 t, .int .i64 (adv t p l n).1, .int .i64 (adv t p l n).2]) ∧ Below w.heap.size w w' := by
  obtain ⟨hl1, hl2⟩ := hl
  go_enter Try.func39, Try.ntmps39
  go_wp2
  all_goals go_returns
  all_goals refine ⟨?_, by go_grown⟩
  all_goals (unfold adv; (repeat' split) <;> first | rfl | (exfalso; simp_all; done) | (exfalso; omega) | (simp_all; done) | (simp_all; omega))
theorem beg_any (s f t n : Int) (w : World) :
    Calls Try.prog 43 #[.int .i64 s, .int .u64 f, .int .u64 t, .int .i64 n] w fun e w' => e = .returned (.agg #[.int .i64 s, .int .u64 f, .int .u64 t, .int .i64 (beg f t n).1, .int .i64 (beg f t n).2]) ∧ Below w.heap.size w w' := by
  go_enter Try.func43, Try.ntmps43
  go_wp2
  all_goals go_returns
  all_goals refine ⟨?_, by go_grown⟩
  all_goals (unfold beg; (repeat' split) <;> first | rfl | (exfalso; simp_all; done) | (exfalso; omega) | (simp_all; done) | (simp_all; omega))
theorem wan_any (s f t p l : Int) (w : World) :
    Calls Try.prog 41 #[.agg #[.int .i64 s, .int .u64 f, .int .u64 t, .int .i64 p, .int .i64 l]] w fun e w' => e = .returned (.tuple #[.int .u64 (wan f t p).1, .bool (wan f t p).2]) ∧ Below w.heap.size w w' := by
  go_enter Try.func41, Try.ntmps41
  go_wp2
  all_goals go_returns
  all_goals refine ⟨?_, by go_grown⟩
  all_goals (unfold wan; (repeat' split) <;> first | rfl | (exfalso; simp_all; done) | (exfalso; omega) | (simp_all; done) | (simp_all; omega))
set_option maxHeartbeats 4000000 in
theorem radv_any (s f t p l n : Int) (w : World) (hl : -9223372036854775808 ≤ l ∧ l ≤ 9223372036854775807) :
    Calls Try.prog 40 #[.agg #[.int .i64 s, .int .u64 f, .int .u64 t, .int .i64 p, .int .i64 l], .int .i64 n] w fun e w' => e = .returned (.agg #[.int .i64 s, .int .u64 f, .int .u64 t, .int .i64 (adv t p l n).1, .int .i64 (adv t p l n).2]) ∧ Below w.heap.size w w' := by
  obtain ⟨hl1, hl2⟩ := hl
  go_enter Try.func40, Try.ntmps40
  go_wp2
  all_goals go_returns
  all_goals refine ⟨?_, by go_grown⟩
  all_goals (unfold adv; (repeat' split) <;> first | rfl | (exfalso; simp_all; done) | (exfalso; omega) | (simp_all; done) | (simp_all; omega))
theorem rbeg_any (s f t n : Int) (w : World) :
    Calls Try.prog 44 #[.int .i64 s, .int .u64 f, .int .u64 t, .int .i64 n] w fun e w' => e = .returned (.agg #[.int .i64 s, .int .u64 f, .int .u64 t, .int .i64 (beg f t n).1, .int .i64 (beg f t n).2]) ∧ Below w.heap.size w w' := by
  go_enter Try.func44, Try.ntmps44
  go_wp2
  all_goals go_returns
  all_goals refine ⟨?_, by go_grown⟩
  all_goals (unfold beg; (repeat' split) <;> first | rfl | (exfalso; simp_all; done) | (exfalso; omega) | (simp_all; done) | (simp_all; omega))
theorem rwan_any (s f t p l : Int) (w : World) :
    Calls Try.prog 42 #[.agg #[.int .i64 s, .int .u64 f, .int .u64 t, .int .i64 p, .int .i64 l]] w fun e w' => e = .returned (.tuple #[.int .u64 (wan f t p).1, .bool (wan f t p).2]) ∧ Below w.heap.size w w' := by
  go_enter Try.func42, Try.ntmps42
  go_wp2
  all_goals go_returns
  all_goals refine ⟨?_, by go_grown⟩
  all_goals (unfold wan; (repeat' split) <;> first | rfl | (exfalso; simp_all; done) | (exfalso; omega) | (simp_all; done) | (simp_all; omega))
end Go.Proofs.Ytnfkcfogmficfaa
