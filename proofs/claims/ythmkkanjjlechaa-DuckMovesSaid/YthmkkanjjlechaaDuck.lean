/- Envelopes and slopes: no statement is proved here. -/
import Derived.Test.YthmkkanjjlechaaDeckSt
import Derived.RegionTactic
import Derived.BigRegion
import Derived.ChangeAlike
namespace Go.Proofs.Ythmkkanjjlechaa
open Go.ChangeShapes Go.WideShapes Go.ChangeAt Go.RowKit
set_option linter.unusedVariables false
set_option linter.unusedSimpArgs false

def duV (g q a r h : Int) : Bool := decide ((0 ≤ g ∧ g ≤ 262144) ∧ (0 ≤ h ∧ h ≤ 4096) ∧ (0 ≤ q ∧ q ≤ h) ∧ (1 ≤ a ∧ a ≤ 262144) ∧ 1 ≤ r ∧ r ≤ 262144)
theorem duV_true {g q a r h : Int} : duV g q a r h = true ↔ (0 ≤ g ∧ g ≤ 262144) ∧ (0 ≤ h ∧ h ≤ 4096) ∧ (0 ≤ q ∧ q ≤ h) ∧ (1 ≤ a ∧ a ≤ 262144) ∧ 1 ≤ r ∧ r ≤ 262144 := by unfold duV; simp
def nexV (g q a r h x : Int) : Int × Int := if x < g then (max x (g - a), h) else if g < x ∧ 0 < q then (g, q - 1) else (min x (g + r), q)
theorem dvalid_any (g q a r h : Int) (w : World) :
    Calls Try.prog 31 #[.agg #[.int .i64 g, .int .i64 q], .agg #[.int .i64 a, .int .i64 r, .int .i64 h]] w fun e w' => e = .returned (.bool (duV g q a r h)) ∧ Below w.heap.size w w' := by
  go_enter Try.func31, Try.ntmps31
  go_wp2
  all_goals go_ret
  all_goals refine ⟨ret_b ?_, by go_grown⟩
  all_goals (rw [Bool.eq_iff_iff]; simp [duV]; (try simp only [Bool.not_eq_false', Bool.not_eq_true', decide_eq_true_eq, decide_eq_false_iff_not] at *); try omega)
theorem rdvalid_any (g q a r h : Int) (w : World) :
    Calls Try.prog 32 #[.agg #[.int .i64 g, .int .i64 q], .agg #[.int .i64 a, .int .i64 r, .int .i64 h]] w fun e w' => e = .returned (.bool (duV g q a r h)) ∧ Below w.heap.size w w' := by
  go_enter Try.func32, Try.ntmps32
  go_wp2
  all_goals go_ret
  all_goals refine ⟨ret_b ?_, by go_grown⟩
  all_goals (rw [Bool.eq_iff_iff]; simp [duV]; try omega)
theorem dnext_any (g q a r h x : Int) (hv : duV g q a r h = true) (hx : 0 ≤ x ∧ x ≤ 262144) (w : World) :
    Calls Try.prog 67 #[.agg #[.int .i64 g, .int .i64 q], .agg #[.int .i64 a, .int .i64 r, .int .i64 h], .int .i64 x] w fun e w' => e = .returned (.agg #[.int .i64 (nexV g q a r h x).1, .int .i64 (nexV g q a r h x).2]) ∧ Below w.heap.size w w' := by
  obtain ⟨⟨g1, g2⟩, ⟨h1, h2⟩, ⟨q1, q2⟩, ⟨a1, a2⟩, r1, r2⟩ := duV_true.1 hv
  obtain ⟨x1, x2⟩ := hx
  clear hv
  go_enter Try.func67, Try.ntmps67
  go_wp2
  all_goals go_returns
  all_goals (refine ⟨?_, by go_grown⟩; unfold nexV)
  all_goals ((repeat' split) <;> first | rfl | (exfalso; omega) | (simp; done) | (simp; omega))
theorem dmoved_any (g q a r h x : Int) (hv : duV g q a r h = true) (hx : 0 ≤ x ∧ x ≤ 262144) (w : World) :
    Calls Try.prog 68 #[.agg #[.int .i64 g, .int .i64 q], .agg #[.int .i64 a, .int .i64 r, .int .i64 h], .int .i64 x] w fun e w' => e = .returned (.agg #[.int .i64 (nexV g q a r h x).1, .int .i64 (nexV g q a r h x).2]) ∧ Below w.heap.size w w' := by
  obtain ⟨⟨g1, g2⟩, ⟨h1, h2⟩, ⟨q1, q2⟩, ⟨a1, a2⟩, r1, r2⟩ := duV_true.1 hv
  obtain ⟨x1, x2⟩ := hx
  clear hv
  go_enter Try.func68, Try.ntmps68
  go_wp2
  all_goals go_returns
  all_goals (refine ⟨?_, by go_grown⟩; unfold nexV)
  all_goals ((repeat' split) <;> first | rfl | (exfalso; omega) | (simp; done) | (simp; omega))
end Go.Proofs.Ythmkkanjjlechaa
