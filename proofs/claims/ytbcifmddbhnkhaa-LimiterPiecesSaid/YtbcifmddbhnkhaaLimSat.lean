/- The limiting of one frame. No statement is proved here. -/
import Derived.Test.YtbcifmddbhnkhaaLimMod
import Derived.Test.YtbcifmddbhnkhaaFactsP
import Derived.Deep.DeepCutAuto
import Derived.StillTailTactics
import Derived.Lib.AppendZeros
import Derived.ArgAppend
namespace Go.Proofs.Ytbcifmddbhnkhaa
open Go.ChangeShapes Go.WideShapes Go.ChangeAt Go.RowKit
set_option linter.unusedVariables false
set_option linter.unusedSimpArgs false

theorem sat_any (x : Int) (w : World) (hx : -9223372036854775808 ≤ x ∧ x ≤ 9223372036854775807) : Calls Try.prog 27 #[.int .i64 x] w fun e w' => e = .returned (.int .i32 (satI x)) ∧ w = w' := by
  have hw : IntKind.i32.wrap (satI x) = satI x := by have := satI_bd x; exact IntWalk.i32_in _ (by omega)
  go_enter Try.func27, Try.ntmps27
  go_wp2
  all_goals (go_ret; exact ⟨ret_int (by first | rfl | (simp [satI] at *; omega) | (unfold satI at *; simp; omega)), rfl⟩)
theorem still_of {P : Program} {f : FuncId} {args : Array Value} {w : World} {v : Value} (h : Calls P f args w fun e w' => e = .returned v ∧ w = w') : Calls P f args w fun e w' => e = .returned v ∧ w' = w := h.mono fun e w' ⟨h1, h2⟩ => ⟨h1, h2.symm⟩
end Go.Proofs.Ytbcifmddbhnkhaa
