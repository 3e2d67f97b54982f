/- The sum of a latency's parts: no statement is proved here. -/
import Derived.Test.YtnfkcfogmficfaaLatency
namespace Go.Proofs.Ytnfkcfogmficfaa
open Go.ChangeShapes Go.WideShapes Go.ChangeAt Go.RowKit
set_option linter.unusedVariables false

def totV (a b c d e : Int) : Int := if (0 ≤ a ∧ a ≤ 1099511627776) ∧ (0 ≤ b ∧ b ≤ 1099511627776) ∧ (0 ≤ c ∧ c ≤ 1099511627776) ∧ (0 ≤ d ∧ d ≤ 1099511627776) ∧ (0 ≤ e ∧ e ≤ 1099511627776) then a + b + c + d + e else 0
set_option maxRecDepth 100000 in
set_option maxHeartbeats 8000000 in
theorem total_any (a b c d e : Int) (w : World) :
    Calls Try.prog 20 #[.agg #[.int .i64 a, .int .i64 b, .int .i64 c, .int .i64 d, .int .i64 e]] w fun x w' => x = .returned (.int .i64 (totV a b c d e)) ∧ Below w.heap.size w w' := by
  have i0 : ∀ w, (Instr.index 99 (.agg #[.int .i64 a, .int .i64 b, .int .i64 c, .int .i64 d, .int .i64 e]) (.int .i64 0)).run Try.prog w = .ok (.int .i64 a) w := fun w => by kernel_rfl
  have i1 : ∀ w, (Instr.index 99 (.agg #[.int .i64 a, .int .i64 b, .int .i64 c, .int .i64 d, .int .i64 e]) (.int .i64 1)).run Try.prog w = .ok (.int .i64 b) w := fun w => by kernel_rfl
  have i2 : ∀ w, (Instr.index 99 (.agg #[.int .i64 a, .int .i64 b, .int .i64 c, .int .i64 d, .int .i64 e]) (.int .i64 2)).run Try.prog w = .ok (.int .i64 c) w := fun w => by kernel_rfl
  have i3 : ∀ w, (Instr.index 99 (.agg #[.int .i64 a, .int .i64 b, .int .i64 c, .int .i64 d, .int .i64 e]) (.int .i64 3)).run Try.prog w = .ok (.int .i64 d) w := fun w => by kernel_rfl
  have i4 : ∀ w, (Instr.index 99 (.agg #[.int .i64 a, .int .i64 b, .int .i64 c, .int .i64 d, .int .i64 e]) (.int .i64 4)).run Try.prog w = .ok (.int .i64 e) w := fun w => by kernel_rfl
  go_enter Try.func20, Try.ntmps20
  go_wp2
  go_rounds 6
  all_goals go_ret
  all_goals refine ⟨ret_int ?_, by go_grown⟩
  all_goals (unfold totV; split <;> first | rfl | omega | (simp only [wrap64]; omega) | (exfalso; simp_all; done) | (exfalso; simp_all; omega))
set_option maxRecDepth 100000 in
set_option maxHeartbeats 8000000 in
theorem rtotal_any (a b c d e : Int) (w : World) :
    Calls Try.prog 21 #[.agg #[.int .i64 a, .int .i64 b, .int .i64 c, .int .i64 d, .int .i64 e]] w fun x w' => x = .returned (.int .i64 (totV a b c d e)) ∧ Below w.heap.size w w' := by
  go_enter Try.func21, Try.ntmps21
  go_wp2
  go_rounds 6
  all_goals go_ret
  all_goals refine ⟨ret_int ?_, by go_grown⟩
  all_goals (unfold totV; split <;> first | rfl | omega | (simp only [wrap64]; omega) | (exfalso; simp_all; done) | (exfalso; simp_all; omega))

end Go.Proofs.Ytnfkcfogmficfaa
