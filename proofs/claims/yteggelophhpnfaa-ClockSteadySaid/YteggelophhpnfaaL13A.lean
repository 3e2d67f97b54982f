/- Clocks made, changed. No statement is proved here. -/
import Derived.Test.YteggelophhpnfaaClt
namespace Go.Proofs.Yteggelophhpnfaa
open Go.ChangeShapes Go.WideShapes Go.ChangeAt Go.RowKit
set_option linter.unusedVariables false
set_option linter.unusedSimpArgs false


/-- may the rate change at t -/
def atB (l : List Int) (n : Nat) (t : Int) : Bool := decide (List.getD l ((n - 1) * 3) 0 < t ∧ t ≤ 1099511627776)
def cgB (l : List Int) (n : Nat) (t N W : Int) : Bool := ckB l n && (atB l n t && (rtB N W && decide (n < 64)))
def cgL (l : List Int) (n : Nat) (t N W : Int) : List Int := if cgB l n t N W = true then l ++ [t, N, W] else []
def cgN (l : List Int) (n : Nat) (t N W : Int) : Nat := if cgB l n t N W = true then n + 1 else 0
def cgE (l : List Int) (n : Nat) (t N W : Int) : Int := if ckB l n = true then (if atB l n t = true then (if rtB N W = true then (if n < 64 then 0 else 3) else 1) else 2) else 1
theorem cg_yes {l : List Int} {n : Nat} {t N W : Int} (h1 : ckB l n = true) (h2 : atB l n t = true) (h3 : rtB N W = true) (h4 : n < 64) : cgL l n t N W = l ++ [t, N, W] ∧ cgN l n t N W = n + 1 ∧ cgE l n t N W = 0 := by
  have h : cgB l n t N W = true := by unfold cgB; rw [h1, h2, h3, decide_eq_true h4]; rfl
  unfold cgL cgN cgE; rw [if_pos h, if_pos h, if_pos h1, if_pos h2, if_pos h3, if_pos h4]; exact ⟨rfl, rfl, rfl⟩
theorem cg_no {l : List Int} {n : Nat} {t N W : Int} (h : cgB l n t N W = false) : cgL l n t N W = [] ∧ cgN l n t N W = 0 := by
  unfold cgL cgN; rw [if_neg (by rw [h]; decide), if_neg (by rw [h]; decide)]; exact ⟨rfl, rfl⟩
theorem at_t {l : List Int} {n : Nat} {t : Int} (h : List.getD l ((n - 1) * 3) 0 < t ∧ t ≤ 1099511627776) : atB l n t = true := decide_eq_true h
theorem at_of {l : List Int} {n : Nat} {t : Int} (h : atB l n t = true) : List.getD l ((n - 1) * 3) 0 < t ∧ t ≤ 1099511627776 := of_decide_eq_true h
theorem at_no {l : List Int} {n : Nat} {t : Int} (h : atB l n t = false) : t ≤ List.getD l ((n - 1) * 3) 0 ∨ 1099511627776 < t := by
  have := of_decide_eq_false h; omega
/-- one segment -/
theorem ck_one {N W : Int} : ckB [0, N, W] 1 = rtB N W := by
  cases h : rtB N W with
  | true =>
    refine ck_t (by omega) fun j hj => ?_
    obtain rfl : j = 0 := by omega
    exact seg_t h ⟨(by show (0 : Int) ≤ 1099511627776; decide), .inr rfl, .inl rfl⟩
  | false => exact ck_s (k := 0) (by omega) (seg_r h)
def nwL (N W : Int) : List Int := if rtB N W = true then [0, N, W] else []
def nwN (N W : Int) : Nat := if rtB N W = true then 1 else 0
def nwE (N W : Int) : Int := if rtB N W = true then 0 else 1

set_option maxHeartbeats 4000000 in
set_option maxRecDepth 100000 in
theorem N_New_ok_p (N W : Int) (hr : rtB N W = true) : Fun 11 [.agg [iC N, iC W]] (toG []) 0 (.tup [.agg [.d (D.sl [iD 0, iD N, iD W] 1)], iE 0]) (toG []) 0 := by
  refine Fun.mk (n := 14) Try.func11 rfl rfl (Nat.le_of_ble_eq_true rfl) ?_
  intro cx hcx
  refine AW.rgs [.no, .no, .no] [1, 2] [0, 1] (P := True) (l' := [(1, rV 0 0), (2, rV 1 0)]) (g' := [(0, some (27, .ds [iD N, iD W])), (1, some (24, .ds [D.lit (.slice none 0 0)]))]) (nx' := 2) (by kernel_rfl) trivial ?_
  refine AW.rgs [.no, .no, .no, .no, .no, .no] [2, 4] [1, 2, 3] (P := True) (l' := [(2, rV 1 0), (4, rV 3 0)]) (g' := [(1, some (24, .ds [D.lit (.slice none 0 0)])), (2, some (60, .ds [iD 0, iD N, iD W])), (3, some (24, .cs [.own 2 0 1 3 true]))]) (nx' := 4) (by kernel_rfl) trivial ?_
  refine AW.seq ?_
  refine AW.rgs [.no, .call [] (bV true) [] 0 [none] none, .no] [2, 4, 11] [1, 2, 3] (P := ([iD 0, iD N, iD W].length = 1 * 3) ∧ (noSlPV (bV true) = true) ∧ (Fun 17 [.agg [.d (D.sl [iD 0, iD N, iD W] 1)]] (toG []) 0 (bV true) (toG []) 0)) (l' := [(2, rV 1 0), (4, rV 3 0), (11, bV false)]) (g' := [(1, some (24, .ds [D.lit (.slice none 0 0)])), (2, some (60, .ds [iD 0, iD N, iD W])), (3, some (24, .cs [.own 2 0 1 3 true]))]) (nx' := 4) (by kernel_rfl) ⟨(by first | omega | (rw [dI_len]; omega) | (simp [dI_len] <;> omega) | rfl), rfl, (by have h0 := (T_Valid ([0, N, W] : List Int) 1 (by first | omega | with_reducible assumption | (simp <;> omega) | rfl | assumption) (by omega)); rw [(ck_one.trans hr)] at h0; exact h0)⟩ ?_
  refine AW.cond_f (.tmp (Look.of rfl)) ?_
  refine AW.skip ?_
  refine AW.rgs [.no, .no, .no] [2, 3] [1, 2] (P := True) (l' := [(2, rV 1 0), (3, iV 0)]) (g' := [(1, some (24, .cs [.own 2 0 1 3 true])), (2, some (60, .ds [iD 0, iD N, iD W]))]) (nx' := 4) (by kernel_rfl) trivial ?_
  refine AW.freeze 2 (l' := [(2, rV 1 0), (3, iV 0)]) (g' := [(1, some (24, .ds [D.sl [iD 0, iD N, iD W] 1]))]) rfl (FzS.cons rfl (.same _) (FzS.cons rfl (.same _) FzS.nil)) (FzG.to (bc := .cs [.own 2 0 1 3 true]) rfl (by rfl) (FzL.cons (@FzC.own 2 ([iD 0, iD N, iD W] : List D) 0 (1 : Nat) 3 true ([iD 0, iD N, iD W] : List D) (by rw [List.drop_zero, List.take_of_length_le (by first | omega | (rw [dI_len]; omega) | (simp [dI_len] <;> omega))]) (by first | omega | (rw [dI_len]; omega) | (simp [dI_len] <;> omega) | rfl)) FzL.nil) FzG.nil) ?_
  refine AW.ret ?_
  exact EndP.of (.inr rfl) [] (P := (([iD 0, iD N, iD W] : List D) = [iD 0, iD N, iD W]) ∧ ((1 : Nat) = 1) ∧ ((0 : Int) = 0)) (by kernel_rfl) ⟨rfl, rfl, rfl⟩

set_option maxHeartbeats 4000000 in
set_option maxRecDepth 100000 in
theorem N_New_no_p (N W : Int) (hr : rtB N W = false) : Fun 11 [.agg [iC N, iC W]] (toG []) 0 (.tup [.agg [.d (D.sl ([] : List D) 0)], iE 1]) (toG []) 0 := by
  refine Fun.mk (n := 14) Try.func11 rfl rfl (Nat.le_of_ble_eq_true rfl) ?_
  intro cx hcx
  refine AW.rgs [.no, .no, .no] [1, 2] [0, 1] (P := True) (l' := [(1, rV 0 0), (2, rV 1 0)]) (g' := [(0, some (27, .ds [iD N, iD W])), (1, some (24, .ds [D.lit (.slice none 0 0)]))]) (nx' := 2) (by kernel_rfl) trivial ?_
  refine AW.rgs [.no, .no, .no, .no, .no, .no] [2, 4] [1, 2, 3] (P := True) (l' := [(2, rV 1 0), (4, rV 3 0)]) (g' := [(1, some (24, .ds [D.lit (.slice none 0 0)])), (2, some (60, .ds [iD 0, iD N, iD W])), (3, some (24, .cs [.own 2 0 1 3 true]))]) (nx' := 4) (by kernel_rfl) trivial ?_
  refine AW.seq ?_
  refine AW.rgs [.no, .call [] (bV false) [] 0 [none] none, .no] [2, 4, 11] [1, 2, 3] (P := ([iD 0, iD N, iD W].length = 1 * 3) ∧ (noSlPV (bV false) = true) ∧ (Fun 17 [.agg [.d (D.sl [iD 0, iD N, iD W] 1)]] (toG []) 0 (bV false) (toG []) 0)) (l' := [(2, rV 1 0), (4, rV 3 0), (11, bV true)]) (g' := [(1, some (24, .ds [D.lit (.slice none 0 0)])), (2, some (60, .ds [iD 0, iD N, iD W])), (3, some (24, .cs [.own 2 0 1 3 true]))]) (nx' := 4) (by kernel_rfl) ⟨(by first | omega | (rw [dI_len]; omega) | (simp [dI_len] <;> omega) | rfl), rfl, (by have h0 := (T_Valid ([0, N, W] : List Int) 1 (by first | omega | with_reducible assumption | (simp <;> omega) | rfl | assumption) (by omega)); rw [(ck_one.trans hr)] at h0; exact h0)⟩ ?_
  refine AW.cond_t (.tmp (Look.of rfl)) ?_
  refine AW.rgs [.no, .no, .no] [2, 3] [1] (P := True) (l' := [(2, rV 1 0), (3, iV 1)]) (g' := [(1, some (24, .ds [D.lit (.slice none 0 0)]))]) (nx' := 4) (by kernel_rfl) trivial ?_
  refine AW.rel (l' := [(2, rV 1 0), (3, iV 1)]) (g' := [(1, some (24, .ds [D.sl ([] : List D) 0]))]) (NlS.cons rfl (.same _) (NlS.cons rfl (.same _) NlS.nil)) (NlG.to (bc := .ds [D.lit (.slice none 0 0)]) rfl (NlL.cons (.nil) NlL.nil) NlG.nil) ?_
  refine AW.ret ?_
  exact EndP.of (.inr rfl) [] (P := ((([] : List D) : List D) = ([] : List D)) ∧ ((0 : Nat) = 0) ∧ ((1 : Int) = 1)) (by kernel_rfl) ⟨rfl, rfl, rfl⟩

set_option maxHeartbeats 4000000 in
set_option maxRecDepth 100000 in
theorem N_New_ok_r (N W : Int) (hr : rtB N W = true) : Fun 12 [.agg [iC N, iC W]] (toG []) 0 (.tup [.agg [.d (D.sl [iD 0, iD N, iD W] 1)], iE 0]) (toG []) 0 := by
  refine Fun.mk (n := 14) Try.func12 rfl rfl (Nat.le_of_ble_eq_true rfl) ?_
  intro cx hcx
  refine AW.rgs [.no, .no, .no] [1, 2] [0, 1] (P := True) (l' := [(1, rV 0 0), (2, rV 1 0)]) (g' := [(0, some (27, .ds [iD N, iD W])), (1, some (24, .ds [D.lit (.slice none 0 0)]))]) (nx' := 2) (by kernel_rfl) trivial ?_
  refine AW.rgs [.no, .no, .no, .no, .no, .no] [2, 4] [1, 2, 3] (P := True) (l' := [(2, rV 1 0), (4, rV 3 0)]) (g' := [(1, some (24, .ds [D.lit (.slice none 0 0)])), (2, some (60, .ds [iD 0, iD N, iD W])), (3, some (24, .cs [.own 2 0 1 3 true]))]) (nx' := 4) (by kernel_rfl) trivial ?_
  refine AW.seq ?_
  refine AW.rgs [.no, .call [] (bV true) [] 0 [none] none, .no] [2, 4, 11] [1, 2, 3] (P := ([iD 0, iD N, iD W].length = 1 * 3) ∧ (noSlPV (bV true) = true) ∧ (Fun 18 [.agg [.d (D.sl [iD 0, iD N, iD W] 1)]] (toG []) 0 (bV true) (toG []) 0)) (l' := [(2, rV 1 0), (4, rV 3 0), (11, bV false)]) (g' := [(1, some (24, .ds [D.lit (.slice none 0 0)])), (2, some (60, .ds [iD 0, iD N, iD W])), (3, some (24, .cs [.own 2 0 1 3 true]))]) (nx' := 4) (by kernel_rfl) ⟨(by first | omega | (rw [dI_len]; omega) | (simp [dI_len] <;> omega) | rfl), rfl, (by have h0 := (T_rValid ([0, N, W] : List Int) 1 (by first | omega | with_reducible assumption | (simp <;> omega) | rfl | assumption) (by omega)); rw [(ck_one.trans hr)] at h0; exact h0)⟩ ?_
  refine AW.cond_f (.tmp (Look.of rfl)) ?_
  refine AW.skip ?_
  refine AW.rgs [.no, .no, .no] [2, 3] [1, 2] (P := True) (l' := [(2, rV 1 0), (3, iV 0)]) (g' := [(1, some (24, .cs [.own 2 0 1 3 true])), (2, some (60, .ds [iD 0, iD N, iD W]))]) (nx' := 4) (by kernel_rfl) trivial ?_
  refine AW.freeze 2 (l' := [(2, rV 1 0), (3, iV 0)]) (g' := [(1, some (24, .ds [D.sl [iD 0, iD N, iD W] 1]))]) rfl (FzS.cons rfl (.same _) (FzS.cons rfl (.same _) FzS.nil)) (FzG.to (bc := .cs [.own 2 0 1 3 true]) rfl (by rfl) (FzL.cons (@FzC.own 2 ([iD 0, iD N, iD W] : List D) 0 (1 : Nat) 3 true ([iD 0, iD N, iD W] : List D) (by rw [List.drop_zero, List.take_of_length_le (by first | omega | (rw [dI_len]; omega) | (simp [dI_len] <;> omega))]) (by first | omega | (rw [dI_len]; omega) | (simp [dI_len] <;> omega) | rfl)) FzL.nil) FzG.nil) ?_
  refine AW.ret ?_
  exact EndP.of (.inr rfl) [] (P := (([iD 0, iD N, iD W] : List D) = [iD 0, iD N, iD W]) ∧ ((1 : Nat) = 1) ∧ ((0 : Int) = 0)) (by kernel_rfl) ⟨rfl, rfl, rfl⟩

set_option maxHeartbeats 4000000 in
set_option maxRecDepth 100000 in
theorem N_New_no_r (N W : Int) (hr : rtB N W = false) : Fun 12 [.agg [iC N, iC W]] (toG []) 0 (.tup [.agg [.d (D.sl ([] : List D) 0)], iE 1]) (toG []) 0 := by
  refine Fun.mk (n := 14) Try.func12 rfl rfl (Nat.le_of_ble_eq_true rfl) ?_
  intro cx hcx
  refine AW.rgs [.no, .no, .no] [1, 2] [0, 1] (P := True) (l' := [(1, rV 0 0), (2, rV 1 0)]) (g' := [(0, some (27, .ds [iD N, iD W])), (1, some (24, .ds [D.lit (.slice none 0 0)]))]) (nx' := 2) (by kernel_rfl) trivial ?_
  refine AW.rgs [.no, .no, .no, .no, .no, .no] [2, 4] [1, 2, 3] (P := True) (l' := [(2, rV 1 0), (4, rV 3 0)]) (g' := [(1, some (24, .ds [D.lit (.slice none 0 0)])), (2, some (60, .ds [iD 0, iD N, iD W])), (3, some (24, .cs [.own 2 0 1 3 true]))]) (nx' := 4) (by kernel_rfl) trivial ?_
  refine AW.seq ?_
  refine AW.rgs [.no, .call [] (bV false) [] 0 [none] none, .no] [2, 4, 11] [1, 2, 3] (P := ([iD 0, iD N, iD W].length = 1 * 3) ∧ (noSlPV (bV false) = true) ∧ (Fun 18 [.agg [.d (D.sl [iD 0, iD N, iD W] 1)]] (toG []) 0 (bV false) (toG []) 0)) (l' := [(2, rV 1 0), (4, rV 3 0), (11, bV true)]) (g' := [(1, some (24, .ds [D.lit (.slice none 0 0)])), (2, some (60, .ds [iD 0, iD N, iD W])), (3, some (24, .cs [.own 2 0 1 3 true]))]) (nx' := 4) (by kernel_rfl) ⟨(by first | omega | (rw [dI_len]; omega) | (simp [dI_len] <;> omega) | rfl), rfl, (by have h0 := (T_rValid ([0, N, W] : List Int) 1 (by first | omega | with_reducible assumption | (simp <;> omega) | rfl | assumption) (by omega)); rw [(ck_one.trans hr)] at h0; exact h0)⟩ ?_
  refine AW.cond_t (.tmp (Look.of rfl)) ?_
  refine AW.rgs [.no, .no, .no] [2, 3] [1] (P := True) (l' := [(2, rV 1 0), (3, iV 1)]) (g' := [(1, some (24, .ds [D.lit (.slice none 0 0)]))]) (nx' := 4) (by kernel_rfl) trivial ?_
  refine AW.rel (l' := [(2, rV 1 0), (3, iV 1)]) (g' := [(1, some (24, .ds [D.sl ([] : List D) 0]))]) (NlS.cons rfl (.same _) (NlS.cons rfl (.same _) NlS.nil)) (NlG.to (bc := .ds [D.lit (.slice none 0 0)]) rfl (NlL.cons (.nil) NlL.nil) NlG.nil) ?_
  refine AW.ret ?_
  exact EndP.of (.inr rfl) [] (P := ((([] : List D) : List D) = ([] : List D)) ∧ ((0 : Nat) = 0) ∧ ((1 : Int) = 1)) (by kernel_rfl) ⟨rfl, rfl, rfl⟩

theorem N_New_p (N W : Int) : Fun 11 [.agg [iC N, iC W]] (toG []) 0 (.tup [.agg [.d (D.sl (dI .i64 (nwL N W)) (nwN N W))], iE (nwE N W)]) (toG []) 0 := by
  by_cases h : rtB N W = true
  · have h2 := N_New_ok_p N W h
    unfold nwL nwN nwE; rw [if_pos h, if_pos h, if_pos h]; exact h2
  · have h2 := N_New_no_p N W (by simpa using h)
    unfold nwL nwN nwE; rw [if_neg h, if_neg h, if_neg h]; exact h2

theorem N_New_r (N W : Int) : Fun 12 [.agg [iC N, iC W]] (toG []) 0 (.tup [.agg [.d (D.sl (dI .i64 (nwL N W)) (nwN N W))], iE (nwE N W)]) (toG []) 0 := by
  by_cases h : rtB N W = true
  · have h2 := N_New_ok_r N W h
    unfold nwL nwN nwE; rw [if_pos h, if_pos h, if_pos h]; exact h2
  · have h2 := N_New_no_r N W (by simpa using h)
    unfold nwL nwN nwE; rw [if_neg h, if_neg h, if_neg h]; exact h2

set_option maxHeartbeats 4000000 in
set_option maxRecDepth 100000 in
theorem N_Clone_1 (l : List Int) (n : Nat) (hl : List.length l = n * 3) (hb : n ≤ 1000000) (h1 : 1 ≤ n) : Fun 31 [.c (.d (D.sl (dI .i64 l) n))] (toG []) 0 (oV 0 0 n 3) (toG [(0, some (60, .ds (dI .i64 l)))]) 1 := by
  refine Fun.mk (n := 8) Try.func31 rfl rfl (Nat.le_of_ble_eq_true rfl) ?_
  intro cx hcx
  refine AW.rgs [.no] [0] [] (P := True) (l' := [(0, sV .i64 l n)]) (g' := []) (nx' := 0) (by kernel_rfl) trivial ?_
  refine AW.seq ?_
  refine AW.rgs [.no, .no] [0, 4] [] (P := (1 ≤ n)) (l' := [(0, sV .i64 l n), (4, bV false)]) (g' := []) (nx' := 0) (by kernel_rfl) (by omega) ?_
  refine AW.cond_f (.tmp (Look.of rfl)) ?_
  refine AW.skip ?_
  refine AW.rgs [.no, .no, .ap none (0 + n) (dI .i64 l), .no] [2] [1] (P := ((dI .i64 l).length = n * 3) ∧ ((([] : List D) : List D).length = 0 * 3) ∧ ((0 + n) * 24 ≤ 140737488355328) ∧ ((0 : Nat) + n = (0 + n)) ∧ ((([] : List D) : List D) ++ (dI .i64 l) = (dI .i64 l))) (l' := [(2, oV 1 0 (0 + n) 3)]) (g' := [(1, some (60, .ds (dI .i64 l)))]) (nx' := 2) (by kernel_rfl) ⟨(by first | omega | (rw [dI_len]; omega) | (simp [dI_len] <;> omega) | rfl), (by first | omega | (rw [dI_len]; omega) | (simp [dI_len] <;> omega) | rfl), (by omega), (by omega), rfl⟩ ?_
  refine AW.ret ?_
  exact EndP.of (.inr rfl) [(0, 1)] (P := ((0 : Nat) = 0) ∧ ((n : Nat) = (0 + n)) ∧ (((dI .i64 l) : List D) = (dI .i64 l))) (by kernel_rfl) ⟨rfl, (by first | omega | rfl | assumption | (simp; done) | (simp; omega)), rfl⟩

set_option maxHeartbeats 4000000 in
set_option maxRecDepth 100000 in
theorem N_Clone_2   : Fun 31 [.c (.d (D.lit (.slice none 0 0)))] (toG []) 0 (oV 0 0 0 3) (toG [(0, some (60, .ds ([] : List D)))]) 1 := by
  refine Fun.mk (n := 8) Try.func31 rfl rfl (Nat.le_of_ble_eq_true rfl) ?_
  intro cx hcx
  refine AW.rgs [.no] [0] [] (P := True) (l' := [(0, nV)]) (g' := []) (nx' := 0) (by kernel_rfl) trivial ?_
  refine AW.seq ?_
  refine AW.rgs [.no, .no] [0, 4] [] (P := True) (l' := [(0, nV), (4, bV true)]) (g' := []) (nx' := 0) (by kernel_rfl) trivial ?_
  refine AW.cond_t (.tmp (Look.of rfl)) ?_
  refine AW.rgs [.no] [2] [] (P := True) (l' := [(2, nV)]) (g' := []) (nx' := 0) (by kernel_rfl) trivial ?_
  refine AW.adoptS 2 3 60 rfl ?_
  refine AW.ret ?_
  exact EndP.of (.inr rfl) [] (P := ((0 : Nat) = 0) ∧ ((0 : Nat) = 0) ∧ ((([] : List D) : List D) = ([] : List D))) (by kernel_rfl) ⟨rfl, rfl, rfl⟩

set_option maxHeartbeats 4000000 in
set_option maxRecDepth 100000 in
theorem N_Clone_3 (a : Addr) (cap : Nat) (hm : cap ≤ maxLen) : Fun 31 [.c (.d (D.lit (.slice (some a) 0 cap)))] (toG []) 0 (oV 0 0 0 3) (toG [(0, some (60, .ds ([] : List D)))]) 1 := by
  refine Fun.mk (n := 8) Try.func31 rfl rfl (Nat.le_of_ble_eq_true rfl) ?_
  intro cx hcx
  refine AW.rgs [.no] [0] [] (P := True) (l' := [(0, .e (.c (.d (D.lit (.slice (some a) 0 cap)))))]) (g' := []) (nx' := 0) (by kernel_rfl) trivial ?_
  refine AW.seq ?_
  refine AW.rgs [.no, .no] [0, 4] [] (P := True) (l' := [(0, .e (.c (.d (D.lit (.slice (some a) 0 cap))))), (4, bV false)]) (g' := []) (nx' := 0) (by kernel_rfl) trivial ?_
  refine AW.cond_f (.tmp (Look.of rfl)) ?_
  refine AW.skip ?_
  refine AW.relit 0 hm (fun h9 => by cases h9) rfl ?_
  refine AW.rgs [.no, .no, .ap none 0 ([] : List D), .no] [2] [1] (P := (([] : List D).length = 0 * 3) ∧ ((([] : List D) : List D).length = 0 * 3) ∧ ((0 + 0) * 24 ≤ 140737488355328) ∧ ((0 : Nat) + 0 = 0) ∧ ((([] : List D) : List D) ++ ([] : List D) = ([] : List D))) (l' := [(2, oV 1 0 0 3)]) (g' := [(1, some (60, .ds ([] : List D)))]) (nx' := 2) (by kernel_rfl) ⟨(by first | omega | (rw [dI_len]; omega) | (simp [dI_len] <;> omega) | rfl), (by first | omega | (rw [dI_len]; omega) | (simp [dI_len] <;> omega) | rfl), (by omega), (by omega), rfl⟩ ?_
  refine AW.ret ?_
  exact EndP.of (.inr rfl) [(0, 1)] (P := ((0 : Nat) = 0) ∧ ((0 : Nat) = 0) ∧ ((([] : List D) : List D) = ([] : List D))) (by kernel_rfl) ⟨rfl, rfl, rfl⟩

theorem N_Clone (l : List Int) (n : Nat) (hl : List.length l = n * 3) (hb : n ≤ 1000000) : Fun 31 [.c (.d (D.sl (dI .i64 l) n))] (toG []) 0 (oV 0 0 n 3) (toG [(0, some (60, .ds (dI .i64 l)))]) 1 := by
  by_cases h1 : 1 ≤ n
  · exact N_Clone_1 l n hl hb h1
  · obtain rfl : n = 0 := by omega
    obtain rfl : l = [] := List.eq_nil_of_length_eq_zero hl
    exact Fun.nil0 N_Clone_2 (fun a cap hm => N_Clone_3 a cap hm)

set_option maxHeartbeats 4000000 in
set_option maxRecDepth 100000 in
theorem N_Chp_1 (l : List Int) (n : Nat) (t N W : Int) (hl : List.length l = n * 3) (hb : n ≤ 1000000) (hc : ckB l n = false) : Fun 15 [.agg [.d (D.sl (dI .i64 l) n)], iE t, .agg [iC N, iC W]] (toG []) 0 (.tup [.agg [.d (D.sl ([] : List D) 0)], iE 1]) (toG []) 0 := by
  refine Fun.mk (n := 46) Try.func15 rfl rfl (Nat.le_of_ble_eq_true rfl) ?_
  intro cx hcx
  refine AW.rgs [.no, .no, .no, .no] [1, 3, 5, 6] [0, 1, 2] (P := True) (l' := [(1, iV t), (3, rV 0 0), (5, rV 1 0), (6, rV 2 0)]) (g' := [(0, some (24, .ds [D.sl (dI .i64 l) n])), (1, some (27, .ds [iD N, iD W])), (2, some (24, .ds [D.lit (.slice none 0 0)]))]) (nx' := 3) (by kernel_rfl) trivial ?_
  refine AW.seq ?_
  refine AW.rgs [.no, .call [] (bV false) [] 0 [] none, .no] [1, 3, 5, 6, 11] [0, 1, 2] (P := (Fun 17 [.agg [.d (D.sl (dI .i64 l) n)]] (toG []) 0 (bV false) (toG []) 0)) (l' := [(1, iV t), (3, rV 0 0), (5, rV 1 0), (6, rV 2 0), (11, bV true)]) (g' := [(0, some (24, .ds [D.sl (dI .i64 l) n])), (1, some (27, .ds [iD N, iD W])), (2, some (24, .ds [D.lit (.slice none 0 0)]))]) (nx' := 3) (by kernel_rfl) (by have h0 := (T_Valid l n (by omega) (by omega)); rw [hc] at h0; exact h0) ?_
  refine AW.cond_t (.tmp (Look.of rfl)) ?_
  refine AW.rgs [.no, .no, .no] [6, 7] [2] (P := True) (l' := [(6, rV 2 0), (7, iV 1)]) (g' := [(2, some (24, .ds [D.lit (.slice none 0 0)]))]) (nx' := 3) (by kernel_rfl) trivial ?_
  refine AW.rel (l' := [(6, rV 2 0), (7, iV 1)]) (g' := [(2, some (24, .ds [D.sl ([] : List D) 0]))]) (NlS.cons rfl (.same _) (NlS.cons rfl (.same _) NlS.nil)) (NlG.to (bc := .ds [D.lit (.slice none 0 0)]) rfl (NlL.cons (.nil) NlL.nil) NlG.nil) ?_
  refine AW.ret ?_
  exact EndP.of (.inr rfl) [] (P := ((([] : List D) : List D) = ([] : List D)) ∧ ((0 : Nat) = 0) ∧ ((1 : Int) = 1)) (by kernel_rfl) ⟨rfl, rfl, rfl⟩

set_option maxHeartbeats 4000000 in
set_option maxRecDepth 100000 in
theorem N_Chp_2 (l : List Int) (n : Nat) (t N W : Int) (hl : List.length l = n * 3) (hb : n ≤ 1000000) (hc : ckB l n = true) (ha : atB l n t = false) : Fun 15 [.agg [.d (D.sl (dI .i64 l) n)], iE t, .agg [iC N, iC W]] (toG []) 0 (.tup [.agg [.d (D.sl ([] : List D) 0)], iE 2]) (toG []) 0 := by
  have hn1 : 1 ≤ n ∧ n ≤ 64 := (ck_of hc).1
  have ha2 : t ≤ List.getD l ((n - 1) * 3) 0 ∨ 1099511627776 < t := at_no ha
  refine Fun.mk (n := 46) Try.func15 rfl rfl (Nat.le_of_ble_eq_true rfl) ?_
  intro cx hcx
  refine AW.rgs [.no, .no, .no, .no] [1, 3, 5, 6] [0, 1, 2] (P := True) (l' := [(1, iV t), (3, rV 0 0), (5, rV 1 0), (6, rV 2 0)]) (g' := [(0, some (24, .ds [D.sl (dI .i64 l) n])), (1, some (27, .ds [iD N, iD W])), (2, some (24, .ds [D.lit (.slice none 0 0)]))]) (nx' := 3) (by kernel_rfl) trivial ?_
  refine AW.seq ?_
  refine AW.rgs [.no, .call [] (bV true) [] 0 [] none, .no] [1, 3, 5, 6, 11] [0, 1, 2] (P := (Fun 17 [.agg [.d (D.sl (dI .i64 l) n)]] (toG []) 0 (bV true) (toG []) 0)) (l' := [(1, iV t), (3, rV 0 0), (5, rV 1 0), (6, rV 2 0), (11, bV false)]) (g' := [(0, some (24, .ds [D.sl (dI .i64 l) n])), (1, some (27, .ds [iD N, iD W])), (2, some (24, .ds [D.lit (.slice none 0 0)]))]) (nx' := 3) (by kernel_rfl) (by have h0 := (T_Valid l n (by omega) (by omega)); rw [hc] at h0; exact h0) ?_
  refine AW.cond_f (.tmp (Look.of rfl)) ?_
  refine AW.skip ?_
  refine AW.rgs [.no, .no, .no, .no] [1, 3, 5, 6, 8] [0, 1, 2] (P := True) (l' := [(1, iV t), (3, rV 0 0), (5, rV 1 0), (6, rV 2 0), (8, iV ↑n)]) (g' := [(0, some (24, .ds [D.sl (dI .i64 l) n])), (1, some (27, .ds [iD N, iD W])), (2, some (24, .ds [D.lit (.slice none 0 0)]))]) (nx' := 3) (by kernel_rfl) trivial ?_
  refine AW.seq ?_
  by_cases hx1 : (t ≤ (List.getD l ((n - 1) * 3) 0))
  · refine AW.rgs [.no, .no, .no, .no, .w, .n (n - 1), .no, .d (D.lit (.int .i64 (List.getD l ((n - 1) * 3) 0))), .b true, .no, .no] [1, 3, 5, 6, 8, 28] [0, 1, 2] (P := ((-9223372036854775808) ≤ (((n : Nat) : Int) - 1) ∧ (((n : Nat) : Int) - 1) ≤ 9223372036854775807) ∧ (((((n : Nat) : Int) - 1) : Int) = (((n - 1) : Nat) : Int)) ∧ ((n - 1) < n) ∧ ((List.drop 0 (List.drop ((n - 1) * 3) (dI .i64 l)))[0]? = some (D.lit (.int .i64 (List.getD l ((n - 1) * 3) 0)))) ∧ ((t ≤ (List.getD l ((n - 1) * 3) 0)))) (l' := [(1, iV t), (3, rV 0 0), (5, rV 1 0), (6, rV 2 0), (8, iV ↑n), (28, bV true)]) (g' := [(0, some (24, .ds [D.sl (dI .i64 l) n])), (1, some (27, .ds [iD N, iD W])), (2, some (24, .ds [D.lit (.slice none 0 0)]))]) (nx' := 3) (by kernel_rfl) ⟨⟨by omega, by omega⟩, (by first | rfl | omega), (by omega), (by first | (rw [List.drop_drop]; exact dI_at _ _ _ (by first | omega | (rw [dI_len]; omega) | (simp [dI_len] <;> omega) | rfl)) | (rw [List.drop_drop, Nat.add_comm]; exact dI_at _ _ _ (by first | omega | (rw [dI_len]; omega) | (simp [dI_len] <;> omega) | rfl))), (by omega)⟩ ?_
    refine AW.cond_t (.tmp (Look.of rfl)) ?_
    refine AW.rgs [.no, .no, .no] [6, 7] [2] (P := True) (l' := [(6, rV 2 0), (7, iV 2)]) (g' := [(2, some (24, .ds [D.lit (.slice none 0 0)]))]) (nx' := 3) (by kernel_rfl) trivial ?_
    refine AW.rel (l' := [(6, rV 2 0), (7, iV 2)]) (g' := [(2, some (24, .ds [D.sl ([] : List D) 0]))]) (NlS.cons rfl (.same _) (NlS.cons rfl (.same _) NlS.nil)) (NlG.to (bc := .ds [D.lit (.slice none 0 0)]) rfl (NlL.cons (.nil) NlL.nil) NlG.nil) ?_
    refine AW.ret ?_
    exact EndP.of (.inr rfl) [] (P := ((([] : List D) : List D) = ([] : List D)) ∧ ((0 : Nat) = 0) ∧ ((2 : Int) = 2)) (by kernel_rfl) ⟨rfl, rfl, rfl⟩
  · refine AW.rgs [.no, .no, .no, .no, .w, .n (n - 1), .no, .d (D.lit (.int .i64 (List.getD l ((n - 1) * 3) 0))), .b false, .no, .no, .b true, .no] [1, 3, 5, 6, 8, 28] [0, 1, 2] (P := ((-9223372036854775808) ≤ (((n : Nat) : Int) - 1) ∧ (((n : Nat) : Int) - 1) ≤ 9223372036854775807) ∧ (((((n : Nat) : Int) - 1) : Int) = (((n - 1) : Nat) : Int)) ∧ ((n - 1) < n) ∧ ((List.drop 0 (List.drop ((n - 1) * 3) (dI .i64 l)))[0]? = some (D.lit (.int .i64 (List.getD l ((n - 1) * 3) 0)))) ∧ (¬ (t ≤ (List.getD l ((n - 1) * 3) 0))) ∧ (((1099511627776 : Int) < t))) (l' := [(1, iV t), (3, rV 0 0), (5, rV 1 0), (6, rV 2 0), (8, iV ↑n), (28, bV true)]) (g' := [(0, some (24, .ds [D.sl (dI .i64 l) n])), (1, some (27, .ds [iD N, iD W])), (2, some (24, .ds [D.lit (.slice none 0 0)]))]) (nx' := 3) (by kernel_rfl) ⟨⟨by omega, by omega⟩, (by first | rfl | omega), (by omega), (by first | (rw [List.drop_drop]; exact dI_at _ _ _ (by first | omega | (rw [dI_len]; omega) | (simp [dI_len] <;> omega) | rfl)) | (rw [List.drop_drop, Nat.add_comm]; exact dI_at _ _ _ (by first | omega | (rw [dI_len]; omega) | (simp [dI_len] <;> omega) | rfl))), (by omega), (by omega)⟩ ?_
    refine AW.cond_t (.tmp (Look.of rfl)) ?_
    refine AW.rgs [.no, .no, .no] [6, 7] [2] (P := True) (l' := [(6, rV 2 0), (7, iV 2)]) (g' := [(2, some (24, .ds [D.lit (.slice none 0 0)]))]) (nx' := 3) (by kernel_rfl) trivial ?_
    refine AW.rel (l' := [(6, rV 2 0), (7, iV 2)]) (g' := [(2, some (24, .ds [D.sl ([] : List D) 0]))]) (NlS.cons rfl (.same _) (NlS.cons rfl (.same _) NlS.nil)) (NlG.to (bc := .ds [D.lit (.slice none 0 0)]) rfl (NlL.cons (.nil) NlL.nil) NlG.nil) ?_
    refine AW.ret ?_
    exact EndP.of (.inr rfl) [] (P := ((([] : List D) : List D) = ([] : List D)) ∧ ((0 : Nat) = 0) ∧ ((2 : Int) = 2)) (by kernel_rfl) ⟨rfl, rfl, rfl⟩

set_option maxHeartbeats 4000000 in
set_option maxRecDepth 100000 in
theorem N_Chp_3 (l : List Int) (n : Nat) (t N W : Int) (hl : List.length l = n * 3) (hb : n ≤ 1000000) (hc : ckB l n = true) (ha : atB l n t = true) (hr : rtB N W = false) : Fun 15 [.agg [.d (D.sl (dI .i64 l) n)], iE t, .agg [iC N, iC W]] (toG []) 0 (.tup [.agg [.d (D.sl ([] : List D) 0)], iE 1]) (toG []) 0 := by
  have hn1 : 1 ≤ n ∧ n ≤ 64 := (ck_of hc).1
  have ha2 : List.getD l ((n - 1) * 3) 0 < t ∧ t ≤ 1099511627776 := at_of ha
  refine Fun.mk (n := 46) Try.func15 rfl rfl (Nat.le_of_ble_eq_true rfl) ?_
  intro cx hcx
  refine AW.rgs [.no, .no, .no, .no] [1, 3, 5, 6] [0, 1, 2] (P := True) (l' := [(1, iV t), (3, rV 0 0), (5, rV 1 0), (6, rV 2 0)]) (g' := [(0, some (24, .ds [D.sl (dI .i64 l) n])), (1, some (27, .ds [iD N, iD W])), (2, some (24, .ds [D.lit (.slice none 0 0)]))]) (nx' := 3) (by kernel_rfl) trivial ?_
  refine AW.seq ?_
  refine AW.rgs [.no, .call [] (bV true) [] 0 [] none, .no] [1, 3, 5, 6, 11] [0, 1, 2] (P := (Fun 17 [.agg [.d (D.sl (dI .i64 l) n)]] (toG []) 0 (bV true) (toG []) 0)) (l' := [(1, iV t), (3, rV 0 0), (5, rV 1 0), (6, rV 2 0), (11, bV false)]) (g' := [(0, some (24, .ds [D.sl (dI .i64 l) n])), (1, some (27, .ds [iD N, iD W])), (2, some (24, .ds [D.lit (.slice none 0 0)]))]) (nx' := 3) (by kernel_rfl) (by have h0 := (T_Valid l n (by omega) (by omega)); rw [hc] at h0; exact h0) ?_
  refine AW.cond_f (.tmp (Look.of rfl)) ?_
  refine AW.skip ?_
  refine AW.rgs [.no, .no, .no, .no] [1, 3, 5, 6, 8] [0, 1, 2] (P := True) (l' := [(1, iV t), (3, rV 0 0), (5, rV 1 0), (6, rV 2 0), (8, iV ↑n)]) (g' := [(0, some (24, .ds [D.sl (dI .i64 l) n])), (1, some (27, .ds [iD N, iD W])), (2, some (24, .ds [D.lit (.slice none 0 0)]))]) (nx' := 3) (by kernel_rfl) trivial ?_
  refine AW.seq ?_
  refine AW.rgs [.no, .no, .no, .no, .w, .n (n - 1), .no, .d (D.lit (.int .i64 (List.getD l ((n - 1) * 3) 0))), .b false, .no, .no, .b false, .no] [1, 3, 5, 6, 8, 28] [0, 1, 2] (P := ((-9223372036854775808) ≤ (((n : Nat) : Int) - 1) ∧ (((n : Nat) : Int) - 1) ≤ 9223372036854775807) ∧ (((((n : Nat) : Int) - 1) : Int) = (((n - 1) : Nat) : Int)) ∧ ((n - 1) < n) ∧ ((List.drop 0 (List.drop ((n - 1) * 3) (dI .i64 l)))[0]? = some (D.lit (.int .i64 (List.getD l ((n - 1) * 3) 0)))) ∧ (¬ (t ≤ (List.getD l ((n - 1) * 3) 0))) ∧ (¬ ((1099511627776 : Int) < t))) (l' := [(1, iV t), (3, rV 0 0), (5, rV 1 0), (6, rV 2 0), (8, iV ↑n), (28, bV false)]) (g' := [(0, some (24, .ds [D.sl (dI .i64 l) n])), (1, some (27, .ds [iD N, iD W])), (2, some (24, .ds [D.lit (.slice none 0 0)]))]) (nx' := 3) (by kernel_rfl) ⟨⟨by omega, by omega⟩, (by first | rfl | omega), (by omega), (by first | (rw [List.drop_drop]; exact dI_at _ _ _ (by first | omega | (rw [dI_len]; omega) | (simp [dI_len] <;> omega) | rfl)) | (rw [List.drop_drop, Nat.add_comm]; exact dI_at _ _ _ (by first | omega | (rw [dI_len]; omega) | (simp [dI_len] <;> omega) | rfl))), (by omega), (by omega)⟩ ?_
  refine AW.cond_f (.tmp (Look.of rfl)) ?_
  refine AW.skip ?_
  refine AW.seq ?_
  refine AW.rgs [.no, .call [] (bV false) [] 0 [] none, .no] [1, 3, 5, 6, 8, 32] [0, 1, 2] (P := (Fun 30 [.agg [iC N, iC W]] (toG []) 0 (bV false) (toG []) 0)) (l' := [(1, iV t), (3, rV 0 0), (5, rV 1 0), (6, rV 2 0), (8, iV ↑n), (32, bV true)]) (g' := [(0, some (24, .ds [D.sl (dI .i64 l) n])), (1, some (27, .ds [iD N, iD W])), (2, some (24, .ds [D.lit (.slice none 0 0)]))]) (nx' := 3) (by kernel_rfl) (by have h0 := (T_rate N W); rw [hr] at h0; exact h0) ?_
  refine AW.cond_t (.tmp (Look.of rfl)) ?_
  refine AW.rgs [.no, .no, .no] [6, 7] [2] (P := True) (l' := [(6, rV 2 0), (7, iV 1)]) (g' := [(2, some (24, .ds [D.lit (.slice none 0 0)]))]) (nx' := 3) (by kernel_rfl) trivial ?_
  refine AW.rel (l' := [(6, rV 2 0), (7, iV 1)]) (g' := [(2, some (24, .ds [D.sl ([] : List D) 0]))]) (NlS.cons rfl (.same _) (NlS.cons rfl (.same _) NlS.nil)) (NlG.to (bc := .ds [D.lit (.slice none 0 0)]) rfl (NlL.cons (.nil) NlL.nil) NlG.nil) ?_
  refine AW.ret ?_
  exact EndP.of (.inr rfl) [] (P := ((([] : List D) : List D) = ([] : List D)) ∧ ((0 : Nat) = 0) ∧ ((1 : Int) = 1)) (by kernel_rfl) ⟨rfl, rfl, rfl⟩

set_option maxHeartbeats 4000000 in
set_option maxRecDepth 100000 in
theorem N_Chp_4 (l : List Int) (n : Nat) (t N W : Int) (hl : List.length l = n * 3) (hb : n ≤ 1000000) (hc : ckB l n = true) (ha : atB l n t = true) (hr : rtB N W = true) (h6 : n = 64) : Fun 15 [.agg [.d (D.sl (dI .i64 l) n)], iE t, .agg [iC N, iC W]] (toG []) 0 (.tup [.agg [.d (D.sl ([] : List D) 0)], iE 3]) (toG []) 0 := by
  have hn1 : 1 ≤ n ∧ n ≤ 64 := (ck_of hc).1
  have ha2 : List.getD l ((n - 1) * 3) 0 < t ∧ t ≤ 1099511627776 := at_of ha
  refine Fun.mk (n := 46) Try.func15 rfl rfl (Nat.le_of_ble_eq_true rfl) ?_
  intro cx hcx
  refine AW.rgs [.no, .no, .no, .no] [1, 3, 5, 6] [0, 1, 2] (P := True) (l' := [(1, iV t), (3, rV 0 0), (5, rV 1 0), (6, rV 2 0)]) (g' := [(0, some (24, .ds [D.sl (dI .i64 l) n])), (1, some (27, .ds [iD N, iD W])), (2, some (24, .ds [D.lit (.slice none 0 0)]))]) (nx' := 3) (by kernel_rfl) trivial ?_
  refine AW.seq ?_
  refine AW.rgs [.no, .call [] (bV true) [] 0 [] none, .no] [1, 3, 5, 6, 11] [0, 1, 2] (P := (Fun 17 [.agg [.d (D.sl (dI .i64 l) n)]] (toG []) 0 (bV true) (toG []) 0)) (l' := [(1, iV t), (3, rV 0 0), (5, rV 1 0), (6, rV 2 0), (11, bV false)]) (g' := [(0, some (24, .ds [D.sl (dI .i64 l) n])), (1, some (27, .ds [iD N, iD W])), (2, some (24, .ds [D.lit (.slice none 0 0)]))]) (nx' := 3) (by kernel_rfl) (by have h0 := (T_Valid l n (by omega) (by omega)); rw [hc] at h0; exact h0) ?_
  refine AW.cond_f (.tmp (Look.of rfl)) ?_
  refine AW.skip ?_
  refine AW.rgs [.no, .no, .no, .no] [1, 3, 5, 6, 8] [0, 1, 2] (P := True) (l' := [(1, iV t), (3, rV 0 0), (5, rV 1 0), (6, rV 2 0), (8, iV ↑n)]) (g' := [(0, some (24, .ds [D.sl (dI .i64 l) n])), (1, some (27, .ds [iD N, iD W])), (2, some (24, .ds [D.lit (.slice none 0 0)]))]) (nx' := 3) (by kernel_rfl) trivial ?_
  refine AW.seq ?_
  refine AW.rgs [.no, .no, .no, .no, .w, .n (n - 1), .no, .d (D.lit (.int .i64 (List.getD l ((n - 1) * 3) 0))), .b false, .no, .no, .b false, .no] [1, 3, 5, 6, 8, 28] [0, 1, 2] (P := ((-9223372036854775808) ≤ (((n : Nat) : Int) - 1) ∧ (((n : Nat) : Int) - 1) ≤ 9223372036854775807) ∧ (((((n : Nat) : Int) - 1) : Int) = (((n - 1) : Nat) : Int)) ∧ ((n - 1) < n) ∧ ((List.drop 0 (List.drop ((n - 1) * 3) (dI .i64 l)))[0]? = some (D.lit (.int .i64 (List.getD l ((n - 1) * 3) 0)))) ∧ (¬ (t ≤ (List.getD l ((n - 1) * 3) 0))) ∧ (¬ ((1099511627776 : Int) < t))) (l' := [(1, iV t), (3, rV 0 0), (5, rV 1 0), (6, rV 2 0), (8, iV ↑n), (28, bV false)]) (g' := [(0, some (24, .ds [D.sl (dI .i64 l) n])), (1, some (27, .ds [iD N, iD W])), (2, some (24, .ds [D.lit (.slice none 0 0)]))]) (nx' := 3) (by kernel_rfl) ⟨⟨by omega, by omega⟩, (by first | rfl | omega), (by omega), (by first | (rw [List.drop_drop]; exact dI_at _ _ _ (by first | omega | (rw [dI_len]; omega) | (simp [dI_len] <;> omega) | rfl)) | (rw [List.drop_drop, Nat.add_comm]; exact dI_at _ _ _ (by first | omega | (rw [dI_len]; omega) | (simp [dI_len] <;> omega) | rfl))), (by omega), (by omega)⟩ ?_
  refine AW.cond_f (.tmp (Look.of rfl)) ?_
  refine AW.skip ?_
  refine AW.seq ?_
  refine AW.rgs [.no, .call [] (bV true) [] 0 [] none, .no] [1, 3, 5, 6, 8, 32] [0, 1, 2] (P := (Fun 30 [.agg [iC N, iC W]] (toG []) 0 (bV true) (toG []) 0)) (l' := [(1, iV t), (3, rV 0 0), (5, rV 1 0), (6, rV 2 0), (8, iV ↑n), (32, bV false)]) (g' := [(0, some (24, .ds [D.sl (dI .i64 l) n])), (1, some (27, .ds [iD N, iD W])), (2, some (24, .ds [D.lit (.slice none 0 0)]))]) (nx' := 3) (by kernel_rfl) (by have h0 := (T_rate N W); rw [hr] at h0; exact h0) ?_
  refine AW.cond_f (.tmp (Look.of rfl)) ?_
  refine AW.skip ?_
  refine AW.seq ?_
  refine AW.rgs [.no, .b true] [1, 3, 5, 6, 35] [0, 1, 2] (P := ((((n : Nat) : Int) = 64))) (l' := [(1, iV t), (3, rV 0 0), (5, rV 1 0), (6, rV 2 0), (35, bV true)]) (g' := [(0, some (24, .ds [D.sl (dI .i64 l) n])), (1, some (27, .ds [iD N, iD W])), (2, some (24, .ds [D.lit (.slice none 0 0)]))]) (nx' := 3) (by kernel_rfl) (by omega) ?_
  refine AW.cond_t (.tmp (Look.of rfl)) ?_
  refine AW.rgs [.no, .no, .no] [6, 7] [2] (P := True) (l' := [(6, rV 2 0), (7, iV 3)]) (g' := [(2, some (24, .ds [D.lit (.slice none 0 0)]))]) (nx' := 3) (by kernel_rfl) trivial ?_
  refine AW.rel (l' := [(6, rV 2 0), (7, iV 3)]) (g' := [(2, some (24, .ds [D.sl ([] : List D) 0]))]) (NlS.cons rfl (.same _) (NlS.cons rfl (.same _) NlS.nil)) (NlG.to (bc := .ds [D.lit (.slice none 0 0)]) rfl (NlL.cons (.nil) NlL.nil) NlG.nil) ?_
  refine AW.ret ?_
  exact EndP.of (.inr rfl) [] (P := ((([] : List D) : List D) = ([] : List D)) ∧ ((0 : Nat) = 0) ∧ ((3 : Int) = 3)) (by kernel_rfl) ⟨rfl, rfl, rfl⟩

set_option maxHeartbeats 4000000 in
set_option maxRecDepth 100000 in
theorem N_Chp_5 (l : List Int) (n : Nat) (t N W : Int) (hl : List.length l = n * 3) (hb : n ≤ 1000000) (hc : ckB l n = true) (ha : atB l n t = true) (hr : rtB N W = true) (h6 : n < 64) : Fun 15 [.agg [.d (D.sl (dI .i64 l) n)], iE t, .agg [iC N, iC W]] (toG []) 0 (.tup [.agg [.d (D.sl (dI .i64 (l ++ ([t, N, W] : List Int))) (n + 1))], iE 0]) (toG []) 0 := by
  have hn1 : 1 ≤ n ∧ n ≤ 64 := (ck_of hc).1
  have ha2 : List.getD l ((n - 1) * 3) 0 < t ∧ t ≤ 1099511627776 := at_of ha
  refine Fun.mk (n := 46) Try.func15 rfl rfl (Nat.le_of_ble_eq_true rfl) ?_
  intro cx hcx
  refine AW.rgs [.no, .no, .no, .no] [1, 3, 5, 6] [0, 1, 2] (P := True) (l' := [(1, iV t), (3, rV 0 0), (5, rV 1 0), (6, rV 2 0)]) (g' := [(0, some (24, .ds [D.sl (dI .i64 l) n])), (1, some (27, .ds [iD N, iD W])), (2, some (24, .ds [D.lit (.slice none 0 0)]))]) (nx' := 3) (by kernel_rfl) trivial ?_
  refine AW.seq ?_
  refine AW.rgs [.no, .call [] (bV true) [] 0 [] none, .no] [1, 3, 5, 6, 11] [0, 1, 2] (P := (Fun 17 [.agg [.d (D.sl (dI .i64 l) n)]] (toG []) 0 (bV true) (toG []) 0)) (l' := [(1, iV t), (3, rV 0 0), (5, rV 1 0), (6, rV 2 0), (11, bV false)]) (g' := [(0, some (24, .ds [D.sl (dI .i64 l) n])), (1, some (27, .ds [iD N, iD W])), (2, some (24, .ds [D.lit (.slice none 0 0)]))]) (nx' := 3) (by kernel_rfl) (by have h0 := (T_Valid l n (by omega) (by omega)); rw [hc] at h0; exact h0) ?_
  refine AW.cond_f (.tmp (Look.of rfl)) ?_
  refine AW.skip ?_
  refine AW.rgs [.no, .no, .no, .no] [1, 3, 5, 6, 8] [0, 1, 2] (P := True) (l' := [(1, iV t), (3, rV 0 0), (5, rV 1 0), (6, rV 2 0), (8, iV ↑n)]) (g' := [(0, some (24, .ds [D.sl (dI .i64 l) n])), (1, some (27, .ds [iD N, iD W])), (2, some (24, .ds [D.lit (.slice none 0 0)]))]) (nx' := 3) (by kernel_rfl) trivial ?_
  refine AW.seq ?_
  refine AW.rgs [.no, .no, .no, .no, .w, .n (n - 1), .no, .d (D.lit (.int .i64 (List.getD l ((n - 1) * 3) 0))), .b false, .no, .no, .b false, .no] [1, 3, 5, 6, 8, 28] [0, 1, 2] (P := ((-9223372036854775808) ≤ (((n : Nat) : Int) - 1) ∧ (((n : Nat) : Int) - 1) ≤ 9223372036854775807) ∧ (((((n : Nat) : Int) - 1) : Int) = (((n - 1) : Nat) : Int)) ∧ ((n - 1) < n) ∧ ((List.drop 0 (List.drop ((n - 1) * 3) (dI .i64 l)))[0]? = some (D.lit (.int .i64 (List.getD l ((n - 1) * 3) 0)))) ∧ (¬ (t ≤ (List.getD l ((n - 1) * 3) 0))) ∧ (¬ ((1099511627776 : Int) < t))) (l' := [(1, iV t), (3, rV 0 0), (5, rV 1 0), (6, rV 2 0), (8, iV ↑n), (28, bV false)]) (g' := [(0, some (24, .ds [D.sl (dI .i64 l) n])), (1, some (27, .ds [iD N, iD W])), (2, some (24, .ds [D.lit (.slice none 0 0)]))]) (nx' := 3) (by kernel_rfl) ⟨⟨by omega, by omega⟩, (by first | rfl | omega), (by omega), (by first | (rw [List.drop_drop]; exact dI_at _ _ _ (by first | omega | (rw [dI_len]; omega) | (simp [dI_len] <;> omega) | rfl)) | (rw [List.drop_drop, Nat.add_comm]; exact dI_at _ _ _ (by first | omega | (rw [dI_len]; omega) | (simp [dI_len] <;> omega) | rfl))), (by omega), (by omega)⟩ ?_
  refine AW.cond_f (.tmp (Look.of rfl)) ?_
  refine AW.skip ?_
  refine AW.seq ?_
  refine AW.rgs [.no, .call [] (bV true) [] 0 [] none, .no] [1, 3, 5, 6, 8, 32] [0, 1, 2] (P := (Fun 30 [.agg [iC N, iC W]] (toG []) 0 (bV true) (toG []) 0)) (l' := [(1, iV t), (3, rV 0 0), (5, rV 1 0), (6, rV 2 0), (8, iV ↑n), (32, bV false)]) (g' := [(0, some (24, .ds [D.sl (dI .i64 l) n])), (1, some (27, .ds [iD N, iD W])), (2, some (24, .ds [D.lit (.slice none 0 0)]))]) (nx' := 3) (by kernel_rfl) (by have h0 := (T_rate N W); rw [hr] at h0; exact h0) ?_
  refine AW.cond_f (.tmp (Look.of rfl)) ?_
  refine AW.skip ?_
  refine AW.seq ?_
  refine AW.rgs [.no, .b false] [1, 3, 5, 6, 35] [0, 1, 2] (P := (¬ (((n : Nat) : Int) = 64))) (l' := [(1, iV t), (3, rV 0 0), (5, rV 1 0), (6, rV 2 0), (35, bV false)]) (g' := [(0, some (24, .ds [D.sl (dI .i64 l) n])), (1, some (27, .ds [iD N, iD W])), (2, some (24, .ds [D.lit (.slice none 0 0)]))]) (nx' := 3) (by kernel_rfl) (by omega) ?_
  refine AW.cond_f (.tmp (Look.of rfl)) ?_
  refine AW.skip ?_
  refine AW.rgs [.no, .no, .call [] (oV 0 0 n 3) [(0, some (60, .ds (dI .i64 l)))] 1 [] none, .no, .no, .no, .no, .ap none (n + 1) (dI .i64 (l ++ ([t, N, W] : List Int))), .no, .no, .no] [6, 7] [2, 5] (P := (_) ∧ ([iD t, iD N, iD W].length = 1 * 3) ∧ (((dI .i64 l) : List D).length = n * 3) ∧ ((n + 1) * 24 ≤ 140737488355328) ∧ (n + 1 = (n + 1)) ∧ (((dI .i64 l) : List D) ++ [iD t, iD N, iD W] = (dI .i64 (l ++ ([t, N, W] : List Int))))) (l' := [(6, rV 2 0), (7, iV 0)]) (g' := [(2, some (24, .cs [.own 5 0 (n + 1) 3 true])), (5, some (60, .ds (dI .i64 (l ++ ([t, N, W] : List Int)))))]) (nx' := 6) (by kernel_rfl) ⟨(N_Clone l n (by omega) (by omega)), (by first | omega | (rw [dI_len]; omega) | (simp [dI_len] <;> omega) | rfl), (by first | omega | (rw [dI_len]; omega) | (simp [dI_len] <;> omega) | rfl), (by omega), (by omega), (dI_app .i64 l ([t, N, W] : List Int))⟩ ?_
  refine AW.freeze 5 (l' := [(6, rV 2 0), (7, iV 0)]) (g' := [(2, some (24, .ds [D.sl (dI .i64 (l ++ ([t, N, W] : List Int))) (n + 1)]))]) rfl (FzS.cons rfl (.same _) (FzS.cons rfl (.same _) FzS.nil)) (FzG.to (bc := .cs [.own 5 0 (n + 1) 3 true]) rfl (by rfl) (FzL.cons (@FzC.own 5 ((dI .i64 (l ++ ([t, N, W] : List Int))) : List D) 0 (n + 1) 3 true ((dI .i64 (l ++ ([t, N, W] : List Int))) : List D) (by rw [List.drop_zero, List.take_of_length_le (by first | omega | (rw [dI_len]; omega) | (simp [dI_len] <;> omega))]) (by first | omega | (rw [dI_len]; omega) | (simp [dI_len] <;> omega) | rfl)) FzL.nil) FzG.nil) ?_
  refine AW.ret ?_
  exact EndP.of (.inr rfl) [] (P := (((dI .i64 (l ++ ([t, N, W] : List Int))) : List D) = (dI .i64 (l ++ ([t, N, W] : List Int)))) ∧ (((n + 1) : Nat) = (n + 1)) ∧ ((0 : Int) = 0)) (by kernel_rfl) ⟨rfl, rfl, rfl⟩

theorem N_Ch_p (l : List Int) (n : Nat) (t N W : Int) (hl : List.length l = n * 3) (hb : n ≤ 1000000) : Fun 15 [.agg [.d (D.sl (dI .i64 l) n)], iE t, .agg [iC N, iC W]] (toG []) 0 (.tup [.agg [.d (D.sl (dI .i64 (cgL l n t N W)) (cgN l n t N W))], iE (cgE l n t N W)]) (toG []) 0 := by
  have no : cgB l n t N W = false → ∀ k, cgE l n t N W = k → Fun 15 [.agg [.d (D.sl (dI .i64 l) n)], iE t, .agg [iC N, iC W]] (toG []) 0 (.tup [.agg [.d (.sl [] 0)], iE k]) (toG []) 0 → Fun 15 [.agg [.d (D.sl (dI .i64 l) n)], iE t, .agg [iC N, iC W]] (toG []) 0 (.tup [.agg [.d (D.sl (dI .i64 (cgL l n t N W)) (cgN l n t N W))], iE (cgE l n t N W)]) (toG []) 0 := fun h k hk h2 => by rw [(cg_no h).1, (cg_no h).2, hk]; exact h2
  by_cases h1 : ckB l n = true
  · by_cases h2 : atB l n t = true
    · by_cases h3 : rtB N W = true
      · by_cases h4 : n < 64
        · rw [(cg_yes h1 h2 h3 h4).1, (cg_yes h1 h2 h3 h4).2.1, (cg_yes h1 h2 h3 h4).2.2]; exact N_Chp_5 l n t N W hl hb h1 h2 h3 h4
        · exact no (by unfold cgB; rw [decide_eq_false h4]; simp) 3 (by unfold cgE; rw [if_pos h1, if_pos h2, if_pos h3, if_neg h4]) (N_Chp_4 l n t N W hl hb h1 h2 h3 (by have := (ck_of h1).1; omega))
      · exact no (by unfold cgB; rw [show rtB N W = false by simpa using h3]; simp) 1 (by unfold cgE; rw [if_pos h1, if_pos h2, if_neg h3]) (N_Chp_3 l n t N W hl hb h1 h2 (by simpa using h3))
    · exact no (by unfold cgB; rw [show atB l n t = false by simpa using h2]; simp) 2 (by unfold cgE; rw [if_pos h1, if_neg h2]) (N_Chp_2 l n t N W hl hb h1 (by simpa using h2))
  · exact no (by unfold cgB; rw [show ckB l n = false by simpa using h1]; rfl) 1 (by unfold cgE; rw [if_neg h1]) (N_Chp_1 l n t N W hl hb (by simpa using h1))

set_option maxHeartbeats 4000000 in
set_option maxRecDepth 100000 in
theorem N_Chr_1 (l : List Int) (n : Nat) (t N W : Int) (hl : List.length l = n * 3) (hb : n ≤ 1000000) (hc : ckB l n = false) : Fun 16 [.agg [.d (D.sl (dI .i64 l) n)], iE t, .agg [iC N, iC W]] (toG []) 0 (.tup [.agg [.d (D.sl ([] : List D) 0)], iE 1]) (toG []) 0 := by
  refine Fun.mk (n := 50) Try.func16 rfl rfl (Nat.le_of_ble_eq_true rfl) ?_
  intro cx hcx
  refine AW.rgs [.no, .no, .no, .no] [1, 3, 5, 6] [0, 1, 2] (P := True) (l' := [(1, iV t), (3, rV 0 0), (5, rV 1 0), (6, rV 2 0)]) (g' := [(0, some (24, .ds [D.sl (dI .i64 l) n])), (1, some (27, .ds [iD N, iD W])), (2, some (24, .ds [D.lit (.slice none 0 0)]))]) (nx' := 3) (by kernel_rfl) trivial ?_
  refine AW.seq ?_
  refine AW.block ?_
  refine AW.rgs [.no, .call [] (bV false) [] 0 [] none, .no, .no] [1, 3, 5, 6, 8] [0, 1, 2] (P := (Fun 18 [.agg [.d (D.sl (dI .i64 l) n)]] (toG []) 0 (bV false) (toG []) 0)) (l' := [(1, iV t), (3, rV 0 0), (5, rV 1 0), (6, rV 2 0), (8, bV true)]) (g' := [(0, some (24, .ds [D.sl (dI .i64 l) n])), (1, some (27, .ds [iD N, iD W])), (2, some (24, .ds [D.lit (.slice none 0 0)]))]) (nx' := 3) (by kernel_rfl) (by have h0 := (T_rValid l n (by omega) (by omega)); rw [hc] at h0; exact h0) ?_
  refine AW.cond_t (.tmp (Look.of rfl)) ?_
  refine AW.rgs [.no, .no, .no] [6, 7] [2] (P := True) (l' := [(6, rV 2 0), (7, iV 1)]) (g' := [(2, some (24, .ds [D.lit (.slice none 0 0)]))]) (nx' := 3) (by kernel_rfl) trivial ?_
  refine AW.rel (l' := [(6, rV 2 0), (7, iV 1)]) (g' := [(2, some (24, .ds [D.sl ([] : List D) 0]))]) (NlS.cons rfl (.same _) (NlS.cons rfl (.same _) NlS.nil)) (NlG.to (bc := .ds [D.lit (.slice none 0 0)]) rfl (NlL.cons (.nil) NlL.nil) NlG.nil) ?_
  refine AW.ret ?_
  exact EndP.of (.inr rfl) [] (P := ((([] : List D) : List D) = ([] : List D)) ∧ ((0 : Nat) = 0) ∧ ((1 : Int) = 1)) (by kernel_rfl) ⟨rfl, rfl, rfl⟩

set_option maxHeartbeats 4000000 in
set_option maxRecDepth 100000 in
theorem N_Chr_2 (l : List Int) (n : Nat) (t N W : Int) (hl : List.length l = n * 3) (hb : n ≤ 1000000) (hc : ckB l n = true) (ha : atB l n t = false) : Fun 16 [.agg [.d (D.sl (dI .i64 l) n)], iE t, .agg [iC N, iC W]] (toG []) 0 (.tup [.agg [.d (D.sl ([] : List D) 0)], iE 2]) (toG []) 0 := by
  have hn1 : 1 ≤ n ∧ n ≤ 64 := (ck_of hc).1
  have ha2 : t ≤ List.getD l ((n - 1) * 3) 0 ∨ 1099511627776 < t := at_no ha
  refine Fun.mk (n := 50) Try.func16 rfl rfl (Nat.le_of_ble_eq_true rfl) ?_
  intro cx hcx
  refine AW.rgs [.no, .no, .no, .no] [1, 3, 5, 6] [0, 1, 2] (P := True) (l' := [(1, iV t), (3, rV 0 0), (5, rV 1 0), (6, rV 2 0)]) (g' := [(0, some (24, .ds [D.sl (dI .i64 l) n])), (1, some (27, .ds [iD N, iD W])), (2, some (24, .ds [D.lit (.slice none 0 0)]))]) (nx' := 3) (by kernel_rfl) trivial ?_
  refine AW.seq ?_
  refine AW.block ?_
  refine AW.rgs [.no, .call [] (bV true) [] 0 [] none, .no, .no] [1, 3, 5, 6, 8] [0, 1, 2] (P := (Fun 18 [.agg [.d (D.sl (dI .i64 l) n)]] (toG []) 0 (bV true) (toG []) 0)) (l' := [(1, iV t), (3, rV 0 0), (5, rV 1 0), (6, rV 2 0), (8, bV false)]) (g' := [(0, some (24, .ds [D.sl (dI .i64 l) n])), (1, some (27, .ds [iD N, iD W])), (2, some (24, .ds [D.lit (.slice none 0 0)]))]) (nx' := 3) (by kernel_rfl) (by have h0 := (T_rValid l n (by omega) (by omega)); rw [hc] at h0; exact h0) ?_
  refine AW.cond_f (.tmp (Look.of rfl)) ?_
  by_cases hx1 : (t ≤ (List.getD l ((n - 1) * 3) 0))
  · refine AW.rgs [.no, .no, .no, .no, .no, .no, .w, .n (n - 1), .no, .d (D.lit (.int .i64 (List.getD l ((n - 1) * 3) 0))), .b true, .no, .no, .no] [1, 3, 5, 6, 13] [0, 1, 2] (P := ((-9223372036854775808) ≤ (((n : Nat) : Int) - 1) ∧ (((n : Nat) : Int) - 1) ≤ 9223372036854775807) ∧ (((((n : Nat) : Int) - 1) : Int) = (((n - 1) : Nat) : Int)) ∧ ((n - 1) < n) ∧ ((List.drop 0 (List.drop ((n - 1) * 3) (dI .i64 l)))[0]? = some (D.lit (.int .i64 (List.getD l ((n - 1) * 3) 0)))) ∧ ((t ≤ (List.getD l ((n - 1) * 3) 0)))) (l' := [(1, iV t), (3, rV 0 0), (5, rV 1 0), (6, rV 2 0), (13, bV true)]) (g' := [(0, some (24, .ds [D.sl (dI .i64 l) n])), (1, some (27, .ds [iD N, iD W])), (2, some (24, .ds [D.lit (.slice none 0 0)]))]) (nx' := 3) (by kernel_rfl) ⟨⟨by omega, by omega⟩, (by first | rfl | omega), (by omega), (by first | (rw [List.drop_drop]; exact dI_at _ _ _ (by first | omega | (rw [dI_len]; omega) | (simp [dI_len] <;> omega) | rfl)) | (rw [List.drop_drop, Nat.add_comm]; exact dI_at _ _ _ (by first | omega | (rw [dI_len]; omega) | (simp [dI_len] <;> omega) | rfl))), (by omega)⟩ ?_
    refine AW.cond_t (.tmp (Look.of rfl)) ?_
    refine AW.rgs [.no, .no, .no] [6, 7] [2] (P := True) (l' := [(6, rV 2 0), (7, iV 2)]) (g' := [(2, some (24, .ds [D.lit (.slice none 0 0)]))]) (nx' := 3) (by kernel_rfl) trivial ?_
    refine AW.rel (l' := [(6, rV 2 0), (7, iV 2)]) (g' := [(2, some (24, .ds [D.sl ([] : List D) 0]))]) (NlS.cons rfl (.same _) (NlS.cons rfl (.same _) NlS.nil)) (NlG.to (bc := .ds [D.lit (.slice none 0 0)]) rfl (NlL.cons (.nil) NlL.nil) NlG.nil) ?_
    refine AW.ret ?_
    exact EndP.of (.inr rfl) [] (P := ((([] : List D) : List D) = ([] : List D)) ∧ ((0 : Nat) = 0) ∧ ((2 : Int) = 2)) (by kernel_rfl) ⟨rfl, rfl, rfl⟩
  · refine AW.rgs [.no, .no, .no, .no, .no, .no, .w, .n (n - 1), .no, .d (D.lit (.int .i64 (List.getD l ((n - 1) * 3) 0))), .b false, .no, .no, .b true, .no, .no] [1, 3, 5, 6, 13] [0, 1, 2] (P := ((-9223372036854775808) ≤ (((n : Nat) : Int) - 1) ∧ (((n : Nat) : Int) - 1) ≤ 9223372036854775807) ∧ (((((n : Nat) : Int) - 1) : Int) = (((n - 1) : Nat) : Int)) ∧ ((n - 1) < n) ∧ ((List.drop 0 (List.drop ((n - 1) * 3) (dI .i64 l)))[0]? = some (D.lit (.int .i64 (List.getD l ((n - 1) * 3) 0)))) ∧ (¬ (t ≤ (List.getD l ((n - 1) * 3) 0))) ∧ (((1099511627776 : Int) < t))) (l' := [(1, iV t), (3, rV 0 0), (5, rV 1 0), (6, rV 2 0), (13, bV true)]) (g' := [(0, some (24, .ds [D.sl (dI .i64 l) n])), (1, some (27, .ds [iD N, iD W])), (2, some (24, .ds [D.lit (.slice none 0 0)]))]) (nx' := 3) (by kernel_rfl) ⟨⟨by omega, by omega⟩, (by first | rfl | omega), (by omega), (by first | (rw [List.drop_drop]; exact dI_at _ _ _ (by first | omega | (rw [dI_len]; omega) | (simp [dI_len] <;> omega) | rfl)) | (rw [List.drop_drop, Nat.add_comm]; exact dI_at _ _ _ (by first | omega | (rw [dI_len]; omega) | (simp [dI_len] <;> omega) | rfl))), (by omega), (by omega)⟩ ?_
    refine AW.cond_t (.tmp (Look.of rfl)) ?_
    refine AW.rgs [.no, .no, .no] [6, 7] [2] (P := True) (l' := [(6, rV 2 0), (7, iV 2)]) (g' := [(2, some (24, .ds [D.lit (.slice none 0 0)]))]) (nx' := 3) (by kernel_rfl) trivial ?_
    refine AW.rel (l' := [(6, rV 2 0), (7, iV 2)]) (g' := [(2, some (24, .ds [D.sl ([] : List D) 0]))]) (NlS.cons rfl (.same _) (NlS.cons rfl (.same _) NlS.nil)) (NlG.to (bc := .ds [D.lit (.slice none 0 0)]) rfl (NlL.cons (.nil) NlL.nil) NlG.nil) ?_
    refine AW.ret ?_
    exact EndP.of (.inr rfl) [] (P := ((([] : List D) : List D) = ([] : List D)) ∧ ((0 : Nat) = 0) ∧ ((2 : Int) = 2)) (by kernel_rfl) ⟨rfl, rfl, rfl⟩

set_option maxHeartbeats 4000000 in
set_option maxRecDepth 100000 in
theorem N_Chr_3 (l : List Int) (n : Nat) (t N W : Int) (hl : List.length l = n * 3) (hb : n ≤ 1000000) (hc : ckB l n = true) (ha : atB l n t = true) (hr : rtB N W = false) : Fun 16 [.agg [.d (D.sl (dI .i64 l) n)], iE t, .agg [iC N, iC W]] (toG []) 0 (.tup [.agg [.d (D.sl ([] : List D) 0)], iE 1]) (toG []) 0 := by
  have hn1 : 1 ≤ n ∧ n ≤ 64 := (ck_of hc).1
  have ha2 : List.getD l ((n - 1) * 3) 0 < t ∧ t ≤ 1099511627776 := at_of ha
  refine Fun.mk (n := 50) Try.func16 rfl rfl (Nat.le_of_ble_eq_true rfl) ?_
  intro cx hcx
  refine AW.rgs [.no, .no, .no, .no] [1, 3, 5, 6] [0, 1, 2] (P := True) (l' := [(1, iV t), (3, rV 0 0), (5, rV 1 0), (6, rV 2 0)]) (g' := [(0, some (24, .ds [D.sl (dI .i64 l) n])), (1, some (27, .ds [iD N, iD W])), (2, some (24, .ds [D.lit (.slice none 0 0)]))]) (nx' := 3) (by kernel_rfl) trivial ?_
  refine AW.seq ?_
  refine AW.block ?_
  refine AW.rgs [.no, .call [] (bV true) [] 0 [] none, .no, .no] [1, 3, 5, 6, 8] [0, 1, 2] (P := (Fun 18 [.agg [.d (D.sl (dI .i64 l) n)]] (toG []) 0 (bV true) (toG []) 0)) (l' := [(1, iV t), (3, rV 0 0), (5, rV 1 0), (6, rV 2 0), (8, bV false)]) (g' := [(0, some (24, .ds [D.sl (dI .i64 l) n])), (1, some (27, .ds [iD N, iD W])), (2, some (24, .ds [D.lit (.slice none 0 0)]))]) (nx' := 3) (by kernel_rfl) (by have h0 := (T_rValid l n (by omega) (by omega)); rw [hc] at h0; exact h0) ?_
  refine AW.cond_f (.tmp (Look.of rfl)) ?_
  refine AW.rgs [.no, .no, .no, .no, .no, .no, .w, .n (n - 1), .no, .d (D.lit (.int .i64 (List.getD l ((n - 1) * 3) 0))), .b false, .no, .no, .b false, .no, .no] [1, 3, 5, 6, 13] [0, 1, 2] (P := ((-9223372036854775808) ≤ (((n : Nat) : Int) - 1) ∧ (((n : Nat) : Int) - 1) ≤ 9223372036854775807) ∧ (((((n : Nat) : Int) - 1) : Int) = (((n - 1) : Nat) : Int)) ∧ ((n - 1) < n) ∧ ((List.drop 0 (List.drop ((n - 1) * 3) (dI .i64 l)))[0]? = some (D.lit (.int .i64 (List.getD l ((n - 1) * 3) 0)))) ∧ (¬ (t ≤ (List.getD l ((n - 1) * 3) 0))) ∧ (¬ ((1099511627776 : Int) < t))) (l' := [(1, iV t), (3, rV 0 0), (5, rV 1 0), (6, rV 2 0), (13, bV false)]) (g' := [(0, some (24, .ds [D.sl (dI .i64 l) n])), (1, some (27, .ds [iD N, iD W])), (2, some (24, .ds [D.lit (.slice none 0 0)]))]) (nx' := 3) (by kernel_rfl) ⟨⟨by omega, by omega⟩, (by first | rfl | omega), (by omega), (by first | (rw [List.drop_drop]; exact dI_at _ _ _ (by first | omega | (rw [dI_len]; omega) | (simp [dI_len] <;> omega) | rfl)) | (rw [List.drop_drop, Nat.add_comm]; exact dI_at _ _ _ (by first | omega | (rw [dI_len]; omega) | (simp [dI_len] <;> omega) | rfl))), (by omega), (by omega)⟩ ?_
  refine AW.cond_f (.tmp (Look.of rfl)) ?_
  refine AW.rgs [.no, .call [] (bV false) [] 0 [] none, .no, .no] [1, 3, 5, 6, 30] [0, 1, 2] (P := (Fun 32 [.agg [iC N, iC W]] (toG []) 0 (bV false) (toG []) 0)) (l' := [(1, iV t), (3, rV 0 0), (5, rV 1 0), (6, rV 2 0), (30, bV true)]) (g' := [(0, some (24, .ds [D.sl (dI .i64 l) n])), (1, some (27, .ds [iD N, iD W])), (2, some (24, .ds [D.lit (.slice none 0 0)]))]) (nx' := 3) (by kernel_rfl) (by have h0 := (T_rrate N W); rw [hr] at h0; exact h0) ?_
  refine AW.cond_t (.tmp (Look.of rfl)) ?_
  refine AW.rgs [.no, .no, .no] [6, 7] [2] (P := True) (l' := [(6, rV 2 0), (7, iV 1)]) (g' := [(2, some (24, .ds [D.lit (.slice none 0 0)]))]) (nx' := 3) (by kernel_rfl) trivial ?_
  refine AW.rel (l' := [(6, rV 2 0), (7, iV 1)]) (g' := [(2, some (24, .ds [D.sl ([] : List D) 0]))]) (NlS.cons rfl (.same _) (NlS.cons rfl (.same _) NlS.nil)) (NlG.to (bc := .ds [D.lit (.slice none 0 0)]) rfl (NlL.cons (.nil) NlL.nil) NlG.nil) ?_
  refine AW.ret ?_
  exact EndP.of (.inr rfl) [] (P := ((([] : List D) : List D) = ([] : List D)) ∧ ((0 : Nat) = 0) ∧ ((1 : Int) = 1)) (by kernel_rfl) ⟨rfl, rfl, rfl⟩

set_option maxHeartbeats 4000000 in
set_option maxRecDepth 100000 in
theorem N_Chr_4 (l : List Int) (n : Nat) (t N W : Int) (hl : List.length l = n * 3) (hb : n ≤ 1000000) (hc : ckB l n = true) (ha : atB l n t = true) (hr : rtB N W = true) (h6 : n = 64) : Fun 16 [.agg [.d (D.sl (dI .i64 l) n)], iE t, .agg [iC N, iC W]] (toG []) 0 (.tup [.agg [.d (D.sl ([] : List D) 0)], iE 3]) (toG []) 0 := by
  have hn1 : 1 ≤ n ∧ n ≤ 64 := (ck_of hc).1
  have ha2 : List.getD l ((n - 1) * 3) 0 < t ∧ t ≤ 1099511627776 := at_of ha
  refine Fun.mk (n := 50) Try.func16 rfl rfl (Nat.le_of_ble_eq_true rfl) ?_
  intro cx hcx
  refine AW.rgs [.no, .no, .no, .no] [1, 3, 5, 6] [0, 1, 2] (P := True) (l' := [(1, iV t), (3, rV 0 0), (5, rV 1 0), (6, rV 2 0)]) (g' := [(0, some (24, .ds [D.sl (dI .i64 l) n])), (1, some (27, .ds [iD N, iD W])), (2, some (24, .ds [D.lit (.slice none 0 0)]))]) (nx' := 3) (by kernel_rfl) trivial ?_
  refine AW.seq ?_
  refine AW.block ?_
  refine AW.rgs [.no, .call [] (bV true) [] 0 [] none, .no, .no] [1, 3, 5, 6, 8] [0, 1, 2] (P := (Fun 18 [.agg [.d (D.sl (dI .i64 l) n)]] (toG []) 0 (bV true) (toG []) 0)) (l' := [(1, iV t), (3, rV 0 0), (5, rV 1 0), (6, rV 2 0), (8, bV false)]) (g' := [(0, some (24, .ds [D.sl (dI .i64 l) n])), (1, some (27, .ds [iD N, iD W])), (2, some (24, .ds [D.lit (.slice none 0 0)]))]) (nx' := 3) (by kernel_rfl) (by have h0 := (T_rValid l n (by omega) (by omega)); rw [hc] at h0; exact h0) ?_
  refine AW.cond_f (.tmp (Look.of rfl)) ?_
  refine AW.rgs [.no, .no, .no, .no, .no, .no, .w, .n (n - 1), .no, .d (D.lit (.int .i64 (List.getD l ((n - 1) * 3) 0))), .b false, .no, .no, .b false, .no, .no] [1, 3, 5, 6, 13] [0, 1, 2] (P := ((-9223372036854775808) ≤ (((n : Nat) : Int) - 1) ∧ (((n : Nat) : Int) - 1) ≤ 9223372036854775807) ∧ (((((n : Nat) : Int) - 1) : Int) = (((n - 1) : Nat) : Int)) ∧ ((n - 1) < n) ∧ ((List.drop 0 (List.drop ((n - 1) * 3) (dI .i64 l)))[0]? = some (D.lit (.int .i64 (List.getD l ((n - 1) * 3) 0)))) ∧ (¬ (t ≤ (List.getD l ((n - 1) * 3) 0))) ∧ (¬ ((1099511627776 : Int) < t))) (l' := [(1, iV t), (3, rV 0 0), (5, rV 1 0), (6, rV 2 0), (13, bV false)]) (g' := [(0, some (24, .ds [D.sl (dI .i64 l) n])), (1, some (27, .ds [iD N, iD W])), (2, some (24, .ds [D.lit (.slice none 0 0)]))]) (nx' := 3) (by kernel_rfl) ⟨⟨by omega, by omega⟩, (by first | rfl | omega), (by omega), (by first | (rw [List.drop_drop]; exact dI_at _ _ _ (by first | omega | (rw [dI_len]; omega) | (simp [dI_len] <;> omega) | rfl)) | (rw [List.drop_drop, Nat.add_comm]; exact dI_at _ _ _ (by first | omega | (rw [dI_len]; omega) | (simp [dI_len] <;> omega) | rfl))), (by omega), (by omega)⟩ ?_
  refine AW.cond_f (.tmp (Look.of rfl)) ?_
  refine AW.rgs [.no, .call [] (bV true) [] 0 [] none, .no, .no] [1, 3, 5, 6, 30] [0, 1, 2] (P := (Fun 32 [.agg [iC N, iC W]] (toG []) 0 (bV true) (toG []) 0)) (l' := [(1, iV t), (3, rV 0 0), (5, rV 1 0), (6, rV 2 0), (30, bV false)]) (g' := [(0, some (24, .ds [D.sl (dI .i64 l) n])), (1, some (27, .ds [iD N, iD W])), (2, some (24, .ds [D.lit (.slice none 0 0)]))]) (nx' := 3) (by kernel_rfl) (by have h0 := (T_rrate N W); rw [hr] at h0; exact h0) ?_
  refine AW.cond_f (.tmp (Look.of rfl)) ?_
  refine AW.rgs [.no, .no, .no, .b true, .no] [1, 3, 5, 6, 35] [0, 1, 2] (P := (((64 : Int) ≤ ((n : Nat) : Int)))) (l' := [(1, iV t), (3, rV 0 0), (5, rV 1 0), (6, rV 2 0), (35, bV true)]) (g' := [(0, some (24, .ds [D.sl (dI .i64 l) n])), (1, some (27, .ds [iD N, iD W])), (2, some (24, .ds [D.lit (.slice none 0 0)]))]) (nx' := 3) (by kernel_rfl) (by omega) ?_
  refine AW.cond_t (.tmp (Look.of rfl)) ?_
  refine AW.rgs [.no, .no, .no] [6, 7] [2] (P := True) (l' := [(6, rV 2 0), (7, iV 3)]) (g' := [(2, some (24, .ds [D.lit (.slice none 0 0)]))]) (nx' := 3) (by kernel_rfl) trivial ?_
  refine AW.rel (l' := [(6, rV 2 0), (7, iV 3)]) (g' := [(2, some (24, .ds [D.sl ([] : List D) 0]))]) (NlS.cons rfl (.same _) (NlS.cons rfl (.same _) NlS.nil)) (NlG.to (bc := .ds [D.lit (.slice none 0 0)]) rfl (NlL.cons (.nil) NlL.nil) NlG.nil) ?_
  refine AW.ret ?_
  exact EndP.of (.inr rfl) [] (P := ((([] : List D) : List D) = ([] : List D)) ∧ ((0 : Nat) = 0) ∧ ((3 : Int) = 3)) (by kernel_rfl) ⟨rfl, rfl, rfl⟩

set_option maxHeartbeats 4000000 in
set_option maxRecDepth 100000 in
theorem N_Chr_5 (l : List Int) (n : Nat) (t N W : Int) (hl : List.length l = n * 3) (hb : n ≤ 1000000) (hc : ckB l n = true) (ha : atB l n t = true) (hr : rtB N W = true) (h6 : n < 64) : Fun 16 [.agg [.d (D.sl (dI .i64 l) n)], iE t, .agg [iC N, iC W]] (toG []) 0 (.tup [.agg [.d (D.sl (dI .i64 (l ++ ([t, N, W] : List Int))) (n + 1))], iE 0]) (toG []) 0 := by
  have hn1 : 1 ≤ n ∧ n ≤ 64 := (ck_of hc).1
  have ha2 : List.getD l ((n - 1) * 3) 0 < t ∧ t ≤ 1099511627776 := at_of ha
  refine Fun.mk (n := 50) Try.func16 rfl rfl (Nat.le_of_ble_eq_true rfl) ?_
  intro cx hcx
  refine AW.rgs [.no, .no, .no, .no] [1, 3, 5, 6] [0, 1, 2] (P := True) (l' := [(1, iV t), (3, rV 0 0), (5, rV 1 0), (6, rV 2 0)]) (g' := [(0, some (24, .ds [D.sl (dI .i64 l) n])), (1, some (27, .ds [iD N, iD W])), (2, some (24, .ds [D.lit (.slice none 0 0)]))]) (nx' := 3) (by kernel_rfl) trivial ?_
  refine AW.seq ?_
  refine AW.block ?_
  refine AW.rgs [.no, .call [] (bV true) [] 0 [] none, .no, .no] [1, 3, 5, 6, 8] [0, 1, 2] (P := (Fun 18 [.agg [.d (D.sl (dI .i64 l) n)]] (toG []) 0 (bV true) (toG []) 0)) (l' := [(1, iV t), (3, rV 0 0), (5, rV 1 0), (6, rV 2 0), (8, bV false)]) (g' := [(0, some (24, .ds [D.sl (dI .i64 l) n])), (1, some (27, .ds [iD N, iD W])), (2, some (24, .ds [D.lit (.slice none 0 0)]))]) (nx' := 3) (by kernel_rfl) (by have h0 := (T_rValid l n (by omega) (by omega)); rw [hc] at h0; exact h0) ?_
  refine AW.cond_f (.tmp (Look.of rfl)) ?_
  refine AW.rgs [.no, .no, .no, .no, .no, .no, .w, .n (n - 1), .no, .d (D.lit (.int .i64 (List.getD l ((n - 1) * 3) 0))), .b false, .no, .no, .b false, .no, .no] [1, 3, 5, 6, 13] [0, 1, 2] (P := ((-9223372036854775808) ≤ (((n : Nat) : Int) - 1) ∧ (((n : Nat) : Int) - 1) ≤ 9223372036854775807) ∧ (((((n : Nat) : Int) - 1) : Int) = (((n - 1) : Nat) : Int)) ∧ ((n - 1) < n) ∧ ((List.drop 0 (List.drop ((n - 1) * 3) (dI .i64 l)))[0]? = some (D.lit (.int .i64 (List.getD l ((n - 1) * 3) 0)))) ∧ (¬ (t ≤ (List.getD l ((n - 1) * 3) 0))) ∧ (¬ ((1099511627776 : Int) < t))) (l' := [(1, iV t), (3, rV 0 0), (5, rV 1 0), (6, rV 2 0), (13, bV false)]) (g' := [(0, some (24, .ds [D.sl (dI .i64 l) n])), (1, some (27, .ds [iD N, iD W])), (2, some (24, .ds [D.lit (.slice none 0 0)]))]) (nx' := 3) (by kernel_rfl) ⟨⟨by omega, by omega⟩, (by first | rfl | omega), (by omega), (by first | (rw [List.drop_drop]; exact dI_at _ _ _ (by first | omega | (rw [dI_len]; omega) | (simp [dI_len] <;> omega) | rfl)) | (rw [List.drop_drop, Nat.add_comm]; exact dI_at _ _ _ (by first | omega | (rw [dI_len]; omega) | (simp [dI_len] <;> omega) | rfl))), (by omega), (by omega)⟩ ?_
  refine AW.cond_f (.tmp (Look.of rfl)) ?_
  refine AW.rgs [.no, .call [] (bV true) [] 0 [] none, .no, .no] [1, 3, 5, 6, 30] [0, 1, 2] (P := (Fun 32 [.agg [iC N, iC W]] (toG []) 0 (bV true) (toG []) 0)) (l' := [(1, iV t), (3, rV 0 0), (5, rV 1 0), (6, rV 2 0), (30, bV false)]) (g' := [(0, some (24, .ds [D.sl (dI .i64 l) n])), (1, some (27, .ds [iD N, iD W])), (2, some (24, .ds [D.lit (.slice none 0 0)]))]) (nx' := 3) (by kernel_rfl) (by have h0 := (T_rrate N W); rw [hr] at h0; exact h0) ?_
  refine AW.cond_f (.tmp (Look.of rfl)) ?_
  refine AW.rgs [.no, .no, .no, .b false, .no] [1, 3, 5, 6, 35] [0, 1, 2] (P := (¬ ((64 : Int) ≤ ((n : Nat) : Int)))) (l' := [(1, iV t), (3, rV 0 0), (5, rV 1 0), (6, rV 2 0), (35, bV false)]) (g' := [(0, some (24, .ds [D.sl (dI .i64 l) n])), (1, some (27, .ds [iD N, iD W])), (2, some (24, .ds [D.lit (.slice none 0 0)]))]) (nx' := 3) (by kernel_rfl) (by omega) ?_
  refine AW.cond_f (.tmp (Look.of rfl)) ?_
  refine AW.skip ?_
  refine AW.rgs [.no, .no, .ap none n (dI .i64 l), .no, .no, .no, .no, .ap none (n + 1) (dI .i64 (l ++ ([t, N, W] : List Int))), .no, .no, .no] [6, 7] [2, 5] (P := ((dI .i64 l).length = n * 3) ∧ (n * 24 ≤ 140737488355328) ∧ (n = n) ∧ (((dI .i64 l) : List D) = (dI .i64 l)) ∧ ([iD t, iD N, iD W].length = 1 * 3) ∧ (((dI .i64 l) : List D).length = n * 3) ∧ ((n + 1) * 24 ≤ 140737488355328) ∧ (n + 1 = (n + 1)) ∧ (((dI .i64 l) : List D) ++ [iD t, iD N, iD W] = (dI .i64 (l ++ ([t, N, W] : List Int))))) (l' := [(6, rV 2 0), (7, iV 0)]) (g' := [(2, some (24, .cs [.own 5 0 (n + 1) 3 true])), (5, some (60, .ds (dI .i64 (l ++ ([t, N, W] : List Int)))))]) (nx' := 6) (by kernel_rfl) ⟨(by first | omega | (rw [dI_len]; omega) | (simp [dI_len] <;> omega) | rfl), (by omega), rfl, rfl, (by first | omega | (rw [dI_len]; omega) | (simp [dI_len] <;> omega) | rfl), (by first | omega | (rw [dI_len]; omega) | (simp [dI_len] <;> omega) | rfl), (by omega), (by omega), (dI_app .i64 l ([t, N, W] : List Int))⟩ ?_
  refine AW.freeze 5 (l' := [(6, rV 2 0), (7, iV 0)]) (g' := [(2, some (24, .ds [D.sl (dI .i64 (l ++ ([t, N, W] : List Int))) (n + 1)]))]) rfl (FzS.cons rfl (.same _) (FzS.cons rfl (.same _) FzS.nil)) (FzG.to (bc := .cs [.own 5 0 (n + 1) 3 true]) rfl (by rfl) (FzL.cons (@FzC.own 5 ((dI .i64 (l ++ ([t, N, W] : List Int))) : List D) 0 (n + 1) 3 true ((dI .i64 (l ++ ([t, N, W] : List Int))) : List D) (by rw [List.drop_zero, List.take_of_length_le (by first | omega | (rw [dI_len]; omega) | (simp [dI_len] <;> omega))]) (by first | omega | (rw [dI_len]; omega) | (simp [dI_len] <;> omega) | rfl)) FzL.nil) FzG.nil) ?_
  refine AW.ret ?_
  exact EndP.of (.inr rfl) [] (P := (((dI .i64 (l ++ ([t, N, W] : List Int))) : List D) = (dI .i64 (l ++ ([t, N, W] : List Int)))) ∧ (((n + 1) : Nat) = (n + 1)) ∧ ((0 : Int) = 0)) (by kernel_rfl) ⟨rfl, rfl, rfl⟩

theorem N_Ch_r (l : List Int) (n : Nat) (t N W : Int) (hl : List.length l = n * 3) (hb : n ≤ 1000000) : Fun 16 [.agg [.d (D.sl (dI .i64 l) n)], iE t, .agg [iC N, iC W]] (toG []) 0 (.tup [.agg [.d (D.sl (dI .i64 (cgL l n t N W)) (cgN l n t N W))], iE (cgE l n t N W)]) (toG []) 0 := by
  have no : cgB l n t N W = false → ∀ k, cgE l n t N W = k → Fun 16 [.agg [.d (D.sl (dI .i64 l) n)], iE t, .agg [iC N, iC W]] (toG []) 0 (.tup [.agg [.d (.sl [] 0)], iE k]) (toG []) 0 → Fun 16 [.agg [.d (D.sl (dI .i64 l) n)], iE t, .agg [iC N, iC W]] (toG []) 0 (.tup [.agg [.d (D.sl (dI .i64 (cgL l n t N W)) (cgN l n t N W))], iE (cgE l n t N W)]) (toG []) 0 := fun h k hk h2 => by rw [(cg_no h).1, (cg_no h).2, hk]; exact h2
  by_cases h1 : ckB l n = true
  · by_cases h2 : atB l n t = true
    · by_cases h3 : rtB N W = true
      · by_cases h4 : n < 64
        · rw [(cg_yes h1 h2 h3 h4).1, (cg_yes h1 h2 h3 h4).2.1, (cg_yes h1 h2 h3 h4).2.2]; exact N_Chr_5 l n t N W hl hb h1 h2 h3 h4
        · exact no (by unfold cgB; rw [decide_eq_false h4]; simp) 3 (by unfold cgE; rw [if_pos h1, if_pos h2, if_pos h3, if_neg h4]) (N_Chr_4 l n t N W hl hb h1 h2 h3 (by have := (ck_of h1).1; omega))
      · exact no (by unfold cgB; rw [show rtB N W = false by simpa using h3]; simp) 1 (by unfold cgE; rw [if_pos h1, if_pos h2, if_neg h3]) (N_Chr_3 l n t N W hl hb h1 h2 (by simpa using h3))
    · exact no (by unfold cgB; rw [show atB l n t = false by simpa using h2]; simp) 2 (by unfold cgE; rw [if_pos h1, if_neg h2]) (N_Chr_2 l n t N W hl hb h1 (by simpa using h2))
  · exact no (by unfold cgB; rw [show ckB l n = false by simpa using h1]; rfl) 1 (by unfold cgE; rw [if_neg h1]) (N_Chr_1 l n t N W hl hb (by simpa using h1))

end Go.Proofs.Yteggelophhpnfaa
