/- Inverses. No statement is proved here. -/
import Derived.Test.YteggelophhpnfaaClp
namespace Go.Proofs.Yteggelophhpnfaa
open Go.ChangeShapes Go.WideShapes Go.ChangeAt Go.RowKit
set_option linter.unusedVariables false
set_option linter.unusedSimpArgs false


def ivN (N W : Int) : Int := if ratOk N W = true then W else 0
def ivW (N W : Int) : Int := if ratOk N W = true then N else 0
def ivE (N W : Int) : Int := if ratOk N W = true then 0 else 1

set_option maxHeartbeats 4000000 in
set_option maxRecDepth 100000 in
theorem K_Inv_ok (N W : Int) (hok : ratOk N W = true) : Fun 37 [.agg [iC N, iC W]] (toG []) 0 (.tup [.agg [iC W, iC N], iE 0]) (toG []) 0 := by
  refine Fun.mk (n := 13) Try.func37 rfl rfl (Nat.le_of_ble_eq_true rfl) ?_
  intro cx hcx
  refine AW.rgs [.no, .no, .no] [1, 2] [0, 1] (P := True) (l' := [(1, rV 0 0), (2, rV 1 0)]) (g' := [(0, some (27, .ds [iD N, iD W])), (1, some (27, .ds [iD 0, iD 0]))]) (nx' := 2) (by kernel_rfl) trivial ?_
  refine AW.seq ?_
  refine AW.rgs [.no, .call [] (bV true) [] 0 [] none, .no] [1, 2, 6] [0, 1] (P := (Fun 40 [.agg [iC N, iC W]] (toG []) 0 (bV true) (toG []) 0)) (l' := [(1, rV 0 0), (2, rV 1 0), (6, bV false)]) (g' := [(0, some (27, .ds [iD N, iD W])), (1, some (27, .ds [iD 0, iD 0]))]) (nx' := 2) (by kernel_rfl) (by have h0 := (R_Valid_p N W); rw [hok] at h0; exact h0) ?_
  refine AW.cond_f (.tmp (Look.of rfl)) ?_
  refine AW.skip ?_
  refine AW.rgs [.no, .no, .no, .no, .no, .no, .no] [2, 3] [1] (P := True) (l' := [(2, rV 1 0), (3, iV 0)]) (g' := [(1, some (27, .ds [iD W, iD N]))]) (nx' := 2) (by kernel_rfl) trivial ?_
  refine AW.ret ?_
  exact EndP.of (.inr rfl) [] (P := ((W : Int) = W) ∧ ((N : Int) = N) ∧ ((0 : Int) = 0)) (by kernel_rfl) ⟨rfl, rfl, rfl⟩

set_option maxHeartbeats 4000000 in
set_option maxRecDepth 100000 in
theorem K_Inv_no (N W : Int) (hok : ratOk N W = false) : Fun 37 [.agg [iC N, iC W]] (toG []) 0 (.tup [.agg [iC 0, iC 0], iE 1]) (toG []) 0 := by
  refine Fun.mk (n := 13) Try.func37 rfl rfl (Nat.le_of_ble_eq_true rfl) ?_
  intro cx hcx
  refine AW.rgs [.no, .no, .no] [1, 2] [0, 1] (P := True) (l' := [(1, rV 0 0), (2, rV 1 0)]) (g' := [(0, some (27, .ds [iD N, iD W])), (1, some (27, .ds [iD 0, iD 0]))]) (nx' := 2) (by kernel_rfl) trivial ?_
  refine AW.seq ?_
  refine AW.rgs [.no, .call [] (bV false) [] 0 [] none, .no] [1, 2, 6] [0, 1] (P := (Fun 40 [.agg [iC N, iC W]] (toG []) 0 (bV false) (toG []) 0)) (l' := [(1, rV 0 0), (2, rV 1 0), (6, bV true)]) (g' := [(0, some (27, .ds [iD N, iD W])), (1, some (27, .ds [iD 0, iD 0]))]) (nx' := 2) (by kernel_rfl) (by have h0 := (R_Valid_p N W); rw [hok] at h0; exact h0) ?_
  refine AW.cond_t (.tmp (Look.of rfl)) ?_
  refine AW.rgs [.no, .no, .no] [2, 3] [1] (P := True) (l' := [(2, rV 1 0), (3, iV 1)]) (g' := [(1, some (27, .ds [iD 0, iD 0]))]) (nx' := 2) (by kernel_rfl) trivial ?_
  refine AW.ret ?_
  exact EndP.of (.inr rfl) [] (P := ((0 : Int) = 0) ∧ ((0 : Int) = 0) ∧ ((1 : Int) = 1)) (by kernel_rfl) ⟨rfl, rfl, rfl⟩

theorem F_Inverse_p (N W : Int) : Fun 37 [.agg [iC N, iC W]] (toG []) 0 (.tup [.agg [iC (ivN N W), iC (ivW N W)], iE (ivE N W)]) (toG []) 0 := by
  by_cases h : ratOk N W = true
  · have h2 := K_Inv_ok N W h
    unfold ivN ivW ivE; rw [if_pos h, if_pos h, if_pos h]; exact h2
  · have h2 := K_Inv_no N W (by simpa using h)
    unfold ivN ivW ivE; rw [if_neg h, if_neg h, if_neg h]; exact h2

end Go.Proofs.Yteggelophhpnfaa
