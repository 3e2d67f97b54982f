/- Rate conversion refused. No statement is proved here. -/
import Derived.Test.YtkneaefmjdlegaaZL15
namespace Go.Proofs.Ytkneaefmjdlegaa
open Go.ChangeShapes Go.WideShapes Go.ChangeAt Go.RowKit
set_option linter.unusedVariables false
set_option linter.unusedSimpArgs false
set_option maxHeartbeats 4000000 in
set_option maxRecDepth 100000 in
theorem Q_keepR (ch n d a p f : Int) (l : List Int) (q : Nat) (k : Int) (hl : List.length l = q) : Fun 8 [.agg [iC ch, iC n, iC d, iC a, iC p, iC f, .d (D.sl (dI .i32 l) q)], iE k] (toG []) 0 (.e (.c (.d (D.lit (.bool (decide (((q : Nat) : Int) ≤ k))))))) (toG []) 0 := by
  refine Fun.mk (n := 10) Try.func8 rfl rfl (Nat.le_of_ble_eq_true rfl) ?_
  intro cx hcx
  refine AW.rgs [.no, .no] [1, 2] [0] (P := True) (l' := [(1, iV k), (2, rV 0 0)]) (g' := [(0, some (30, .ds [iD ch, iD n, iD d, iD a, iD p, iD f, D.sl (dI .i32 l) q]))]) (nx' := 1) (by kernel_rfl) trivial ?_
  by_cases hx1 : (((q : Nat) : Int) ≤ k)
  · refine AW.rgs [.no, .no, .no, .no, .b true, .no] [4] [] (P := ((((q : Nat) : Int) ≤ k))) (l' := [(4, bV true)]) (g' := []) (nx' := 1) (by kernel_rfl) (by omega) ?_
    refine AW.ret ?_
    exact EndP.of (.inr rfl) [] (P := ((decide (((q : Nat) : Int) ≤ k)) = true)) (by kernel_rfl) (by first | rfl | assumption | exact decide_eq_true (by omega) | exact decide_eq_false (by omega) | (simp; omega))
  · refine AW.rgs [.no, .no, .no, .no, .b false, .no] [4] [] (P := (¬ (((q : Nat) : Int) ≤ k))) (l' := [(4, bV false)]) (g' := []) (nx' := 1) (by kernel_rfl) (by omega) ?_
    refine AW.ret ?_
    exact EndP.of (.inr rfl) [] (P := ((decide (((q : Nat) : Int) ≤ k)) = false)) (by kernel_rfl) (by first | rfl | assumption | exact decide_eq_true (by omega) | exact decide_eq_false (by omega) | (simp; omega))
end Go.Proofs.Ytkneaefmjdlegaa
