/- Sets of integers: A. No statement is proved here. -/
import Derived.Test.YthnililaajkppaaW09
namespace Go.Proofs.Ythnililaajkppaa
open Go.ChangeShapes Go.WideShapes Go.ChangeAt Go.RowKit
set_option linter.unusedVariables false
set_option linter.unusedSimpArgs false

set_option maxHeartbeats 4000000 in
set_option maxRecDepth 100000 in
theorem U_isSpan (a b : Int)  : Fun 27 [.agg [iC a, iC b]] (toG []) 0 (.e (.c (.d (D.lit (.bool (decide (0 ≤ a ∧ a ≤ b ∧ b ≤ 2147483647))))))) (toG []) 0 := by
  refine Fun.mk (n := 18) Try.func27 rfl rfl (Nat.le_of_ble_eq_true rfl) ?_
  intro cx hcx
  refine AW.rgs [.no, .no] [1] [0] (P := True) (l' := [(1, rV 0 0)]) (g' := [(0, some (46, .ds [iD a, iD b]))]) (nx' := 1) (by kernel_rfl) trivial ?_
  by_cases hx1 : ((0 : Int) ≤ a)
  · by_cases hx2 : (a ≤ b)
    · by_cases hx3 : (b ≤ 2147483647)
      · refine AW.rgs [.no, .no, .b true, .no, .no, .no, .no, .no, .b true, .no, .no, .no, .no, .b true, .no, .no] [2] [] (P := (((0 : Int) ≤ a)) ∧ ((a ≤ b)) ∧ ((b ≤ 2147483647))) (l' := [(2, bV true)]) (g' := []) (nx' := 1) (by kernel_rfl) ⟨(by omega), (by omega), (by omega)⟩ ?_
        refine AW.ret ?_
        exact EndP.of (.inr rfl) [] (P := ((decide (0 ≤ a ∧ a ≤ b ∧ b ≤ 2147483647)) = true)) (by kernel_rfl) (by first | rfl | assumption | exact decide_eq_true (by omega) | exact decide_eq_false (by omega) | (simp; omega))
      · refine AW.rgs [.no, .no, .b true, .no, .no, .no, .no, .no, .b true, .no, .no, .no, .no, .b false, .no, .no] [2] [] (P := (((0 : Int) ≤ a)) ∧ ((a ≤ b)) ∧ (¬ (b ≤ 2147483647))) (l' := [(2, bV false)]) (g' := []) (nx' := 1) (by kernel_rfl) ⟨(by omega), (by omega), (by omega)⟩ ?_
        refine AW.ret ?_
        exact EndP.of (.inr rfl) [] (P := ((decide (0 ≤ a ∧ a ≤ b ∧ b ≤ 2147483647)) = false)) (by kernel_rfl) (by first | rfl | assumption | exact decide_eq_true (by omega) | exact decide_eq_false (by omega) | (simp; omega))
    · refine AW.rgs [.no, .no, .b true, .no, .no, .no, .no, .no, .b false, .no, .no, .no, .no] [2] [] (P := (((0 : Int) ≤ a)) ∧ (¬ (a ≤ b))) (l' := [(2, bV false)]) (g' := []) (nx' := 1) (by kernel_rfl) ⟨(by omega), (by omega)⟩ ?_
      refine AW.ret ?_
      exact EndP.of (.inr rfl) [] (P := ((decide (0 ≤ a ∧ a ≤ b ∧ b ≤ 2147483647)) = false)) (by kernel_rfl) (by first | rfl | assumption | exact decide_eq_true (by omega) | exact decide_eq_false (by omega) | (simp; omega))
  · refine AW.rgs [.no, .no, .b false, .no, .no, .no, .no, .no] [2] [] (P := (¬ ((0 : Int) ≤ a))) (l' := [(2, bV false)]) (g' := []) (nx' := 1) (by kernel_rfl) (by omega) ?_
    refine AW.ret ?_
    exact EndP.of (.inr rfl) [] (P := ((decide (0 ≤ a ∧ a ≤ b ∧ b ≤ 2147483647)) = false)) (by kernel_rfl) (by first | rfl | assumption | exact decide_eq_true (by omega) | exact decide_eq_false (by omega) | (simp; omega))

set_option maxHeartbeats 4000000 in
set_option maxRecDepth 100000 in
theorem U_Valid (l : List Int) (n : Nat) (hl : List.length l = n * 2) (hb : n ≤ 9223372036854775807) : Fun 14 [.agg [.d (D.sl (dI .i64 l) n)]] (toG []) 0 (.e (.c (.d (D.lit (.bool (vaB l n)))))) (toG []) 0 := by
  refine Fun.mk (n := 38) Try.func14 rfl rfl (Nat.le_of_ble_eq_true rfl) ?_
  intro cx hcx
  refine AW.rgs [.no, .no] [1] [0] (P := True) (l' := [(1, rV 0 0)]) (g' := [(0, some (24, .ds [D.sl (dI .i64 l) n]))]) (nx' := 1) (by kernel_rfl) trivial ?_
  refine AW.seq ?_
  by_cases hx1 : ((64 : Int) < ((n : Nat) : Int))
  · refine AW.rgs [.no, .no, .no, .b true] [1, 8] [0] (P := (((64 : Int) < ((n : Nat) : Int)))) (l' := [(1, rV 0 0), (8, bV true)]) (g' := [(0, some (24, .ds [D.sl (dI .i64 l) n]))]) (nx' := 1) (by kernel_rfl) (by omega) ?_
    refine AW.cond_t (.tmp (Look.of rfl)) ?_
    refine AW.rgs [.no] [2] [] (P := True) (l' := [(2, bV false)]) (g' := []) (nx' := 1) (by kernel_rfl) trivial ?_
    refine AW.ret ?_
    exact EndP.of (.inr rfl) [] (P := ((vaB l n) = false)) (by kernel_rfl) (by first | exact vaB_t (by omega) (fun j hj => ha j (by omega)) | exact vaB_f (by omega) | exact vaB_s (k := k) (by omega) (decide_eq_false (by omega)))
  · refine AW.rgs [.no, .no, .no, .b false] [1, 8] [0] (P := (¬ ((64 : Int) < ((n : Nat) : Int)))) (l' := [(1, rV 0 0), (8, bV false)]) (g' := [(0, some (24, .ds [D.sl (dI .i64 l) n]))]) (nx' := 1) (by kernel_rfl) (by omega) ?_
    refine AW.cond_f (.tmp (Look.of rfl)) ?_
    refine AW.skip ?_
    refine AW.seq ?_
    refine AW.rgs [.no, .no, .no, .no] [1, 10, 11, 12] [0] (P := True) (l' := [(1, rV 0 0), (10, sV .i64 l n), (11, iV ↑n), (12, iV 0)]) (g' := [(0, some (24, .ds [D.sl (dI .i64 l) n]))]) (nx' := 1) (by kernel_rfl) trivial ?_
    refine AW.block ?_
    refine AW.loopE 0 hcx (fun (x : {x : Nat // match x with | k => (k ≤ n) ∧ (∀ j, j < k → vaE l j = true)}) => match x with | ⟨k, _⟩ => (⟨[(1, rV 0 0), (10, sV .i64 l n), (11, iV ((n : Nat) : Int)), (12, iV ((k : Nat) : Int))], [(0, some (24, .ds [D.sl (dI .i64 l) n]))], 1⟩ : ES)) (fun (x : {x : Nat // match x with | k => (k ≤ n) ∧ (∀ j, j < k → vaE l j = true)}) => match x with | ⟨k, _⟩ => n - k) ⟨(0 : Nat), (show ((0 : Nat) ≤ n) ∧ (∀ j, j < (0 : Nat) → vaE l j = true) from ⟨(by first | omega | assumption | simp), (fun j hj => absurd hj (Nat.not_lt_zero j))⟩)⟩ [] (P := ((0 : Nat) = 0) ∧ (((dI .i64 l) : List D) = (dI .i64 l)) ∧ ((n : Nat) = n) ∧ ((((n : Nat) : Int) : Int) = ((n : Nat) : Int)) ∧ ((0 : Int) = 0) ∧ (([D.sl (dI .i64 l) n] : List D) = [D.sl (dI .i64 l) n])) (by kernel_rfl) ⟨rfl, rfl, rfl, rfl, rfl, rfl⟩ ?_
    rintro ⟨k, hinv0⟩
    obtain ⟨hk, ha⟩ : (k ≤ n) ∧ (∀ j, j < k → vaE l j = true) := hinv0
    refine AW.es (l := [(1, rV 0 0), (10, sV .i64 l n), (11, iV ((n : Nat) : Int)), (12, iV ((k : Nat) : Int))]) (g := [(0, some (24, .ds [D.sl (dI .i64 l) n]))]) (nx := 1) rfl rfl rfl ?_
    by_cases hx2 : (((k : Nat) : Int) < ((n : Nat) : Int))
    · refine AW.rgs [.b true] [1, 10, 11, 12, 13] [0] (P := ((((k : Nat) : Int) < ((n : Nat) : Int)))) (l' := [(1, rV 0 0), (10, sV .i64 l n), (11, iV ↑n), (12, iV ↑k), (13, bV true)]) (g' := [(0, some (24, .ds [D.sl (dI .i64 l) n]))]) (nx' := 1) (by kernel_rfl) (by omega) ?_
      refine AW.seq ?_
      refine AW.cond_t (.tmp (Look.of rfl)) ?_
      refine AW.skip ?_
      refine AW.seq ?_
      refine AW.block ?_
      refine AW.rgs [.no, .n k, .ds [iD (List.getD l (k * 2) 0), iD (List.getD l ((k * 2) + 1) 0)], .no, .no, .no] [1, 3, 4, 10, 11, 12] [0, 1] (P := ((((k : Nat) : Int) : Int) = ((k : Nat) : Int)) ∧ (k < n) ∧ (List.take 2 (List.drop (k * 2) (dI .i64 l)) = [iD (List.getD l (k * 2) 0), iD (List.getD l ((k * 2) + 1) 0)]) ∧ (([iD (List.getD l (k * 2) 0), iD (List.getD l ((k * 2) + 1) 0)] : List D).length = 2)) (l' := [(1, rV 0 0), (3, iV ↑k), (4, rV 1 0), (10, sV .i64 l n), (11, iV ↑n), (12, iV ↑k)]) (g' := [(0, some (24, .ds [D.sl (dI .i64 l) n])), (1, some (46, .ds [iD (List.getD l (k * 2) 0), iD (List.getD l ((k * 2) + 1) 0)]))]) (nx' := 2) (by kernel_rfl) ⟨rfl, (by omega), (dI_lds .i64 l (k * 2) 2 (by first | omega | (simp only [bsD_len, dI_len, List.length_append, List.length_cons, List.length_nil, List.length_take, List.length_drop, List.length_replicate, List.length_set, List.length_map, List.length_reverse, Nat.mul_one] <;> omega) | rfl)), rfl⟩ ?_
      rcases Bool.eq_false_or_eq_true (decide (0 ≤ (List.getD l (k * 2) 0) ∧ (List.getD l (k * 2) 0) ≤ (List.getD l ((k * 2) + 1) 0) ∧ (List.getD l ((k * 2) + 1) 0) ≤ 2147483647)) with hx3 | hx3
      · have hx4 : (((0 : Int) ≤ (List.getD l (k * 2) 0)) ∧ (((List.getD l (k * 2) 0) ≤ (List.getD l ((k * 2) + 1) 0)) ∧ ((List.getD l ((k * 2) + 1) 0) ≤ 2147483647))) := of_decide_eq_true hx3
        by_cases hx5 : ((0 : Int) < ((k : Nat) : Int))
        · by_cases hx7 : ((List.getD l (k * 2) 0) ≤ ((List.getD l (((k - 1) * 2) + 1) 0) + 1))
          · have hx8 : 0 ≤ List.getD l ((k - 1) * 2 + 1) 0 ∧ List.getD l ((k - 1) * 2 + 1) 0 ≤ 2147483647 := va_prev ha (by omega)
            refine AW.rgs [.no, .call [] (bV true) [] 0 [] none, .no, .no, .no, .b true, .no, .no, .no, .no, .no, .no, .w, .n (k - 1), .no, .d (D.lit (.int .i64 (List.getD l (((k - 1) * 2) + 1) 0))), .w, .b true, .no, .no] [1, 10, 11, 12, 36] [0] (P := (Fun 27 [.agg [iC (List.getD l (k * 2) 0), iC (List.getD l ((k * 2) + 1) 0)]] (toG []) 0 (bV true) (toG []) 0) ∧ (((0 : Int) < ((k : Nat) : Int))) ∧ ((-9223372036854775808) ≤ (((k : Nat) : Int) - 1) ∧ (((k : Nat) : Int) - 1) ≤ 9223372036854775807) ∧ (((((k : Nat) : Int) - 1) : Int) = (((k - 1) : Nat) : Int)) ∧ ((k - 1) < n) ∧ ((List.drop 1 (List.drop ((k - 1) * 2) (dI .i64 l)))[0]? = some (D.lit (.int .i64 (List.getD l (((k - 1) * 2) + 1) 0)))) ∧ ((-9223372036854775808) ≤ ((List.getD l (((k - 1) * 2) + 1) 0) + 1) ∧ ((List.getD l (((k - 1) * 2) + 1) 0) + 1) ≤ 9223372036854775807) ∧ (((List.getD l (k * 2) 0) ≤ ((List.getD l (((k - 1) * 2) + 1) 0) + 1)))) (l' := [(1, rV 0 0), (10, sV .i64 l n), (11, iV ↑n), (12, iV ↑k), (36, bV true)]) (g' := [(0, some (24, .ds [D.sl (dI .i64 l) n]))]) (nx' := 2) (by kernel_rfl) ⟨(by have h0 := (U_isSpan (List.getD l (k * 2) 0) (List.getD l ((k * 2) + 1) 0)); rw [hx3] at h0; exact h0), (by omega), ⟨by omega, by omega⟩, (by first | rfl | omega), (by omega), (by first | (rw [List.drop_drop]; exact dI_at _ _ _ (by first | omega | (simp only [bsD_len, dI_len, List.length_append, List.length_cons, List.length_nil, List.length_take, List.length_drop, List.length_replicate, List.length_set, List.length_map, List.length_reverse, Nat.mul_one] <;> omega) | rfl)) | (rw [List.drop_drop, Nat.add_comm]; exact dI_at _ _ _ (by first | omega | (simp only [bsD_len, dI_len, List.length_append, List.length_cons, List.length_nil, List.length_take, List.length_drop, List.length_replicate, List.length_set, List.length_map, List.length_reverse, Nat.mul_one] <;> omega) | rfl))), ⟨by omega, by omega⟩, (by omega)⟩ ?_
            refine AW.cond_t (.tmp (Look.of rfl)) ?_
            refine AW.rgs [.no] [2] [] (P := True) (l' := [(2, bV false)]) (g' := []) (nx' := 2) (by kernel_rfl) trivial ?_
            refine AW.ret ?_
            exact EndP.of (.inr rfl) [] (P := ((vaB l n) = false)) (by kernel_rfl) (by first | exact vaB_t (by omega) (fun j hj => ha j (by omega)) | exact vaB_f (by omega) | exact vaB_s (k := k) (by omega) (decide_eq_false (by omega)))
          · have hx9 : 0 ≤ List.getD l ((k - 1) * 2 + 1) 0 ∧ List.getD l ((k - 1) * 2 + 1) 0 ≤ 2147483647 := va_prev ha (by omega)
            refine AW.rgs [.no, .call [] (bV true) [] 0 [] none, .no, .no, .no, .b true, .no, .no, .no, .no, .no, .no, .w, .n (k - 1), .no, .d (D.lit (.int .i64 (List.getD l (((k - 1) * 2) + 1) 0))), .w, .b false, .no, .no] [1, 10, 11, 12, 36] [0] (P := (Fun 27 [.agg [iC (List.getD l (k * 2) 0), iC (List.getD l ((k * 2) + 1) 0)]] (toG []) 0 (bV true) (toG []) 0) ∧ (((0 : Int) < ((k : Nat) : Int))) ∧ ((-9223372036854775808) ≤ (((k : Nat) : Int) - 1) ∧ (((k : Nat) : Int) - 1) ≤ 9223372036854775807) ∧ (((((k : Nat) : Int) - 1) : Int) = (((k - 1) : Nat) : Int)) ∧ ((k - 1) < n) ∧ ((List.drop 1 (List.drop ((k - 1) * 2) (dI .i64 l)))[0]? = some (D.lit (.int .i64 (List.getD l (((k - 1) * 2) + 1) 0)))) ∧ ((-9223372036854775808) ≤ ((List.getD l (((k - 1) * 2) + 1) 0) + 1) ∧ ((List.getD l (((k - 1) * 2) + 1) 0) + 1) ≤ 9223372036854775807) ∧ (¬ ((List.getD l (k * 2) 0) ≤ ((List.getD l (((k - 1) * 2) + 1) 0) + 1)))) (l' := [(1, rV 0 0), (10, sV .i64 l n), (11, iV ↑n), (12, iV ↑k), (36, bV false)]) (g' := [(0, some (24, .ds [D.sl (dI .i64 l) n]))]) (nx' := 2) (by kernel_rfl) ⟨(by have h0 := (U_isSpan (List.getD l (k * 2) 0) (List.getD l ((k * 2) + 1) 0)); rw [hx3] at h0; exact h0), (by omega), ⟨by omega, by omega⟩, (by first | rfl | omega), (by omega), (by first | (rw [List.drop_drop]; exact dI_at _ _ _ (by first | omega | (simp only [bsD_len, dI_len, List.length_append, List.length_cons, List.length_nil, List.length_take, List.length_drop, List.length_replicate, List.length_set, List.length_map, List.length_reverse, Nat.mul_one] <;> omega) | rfl)) | (rw [List.drop_drop, Nat.add_comm]; exact dI_at _ _ _ (by first | omega | (simp only [bsD_len, dI_len, List.length_append, List.length_cons, List.length_nil, List.length_take, List.length_drop, List.length_replicate, List.length_set, List.length_map, List.length_reverse, Nat.mul_one] <;> omega) | rfl))), ⟨by omega, by omega⟩, (by omega)⟩ ?_
            refine AW.cond_f (.tmp (Look.of rfl)) ?_
            refine AW.skip ?_
            refine AW.rg [.w, .no] [1, 10, 11, 12] [0] (P := ((-9223372036854775808) ≤ (((k : Nat) : Int) + 1) ∧ (((k : Nat) : Int) + 1) ≤ 9223372036854775807)) (l' := [(1, rV 0 0), (10, sV .i64 l n), (11, iV ↑n), (12, iV (↑k + 1))]) (g' := [(0, some (24, .ds [D.sl (dI .i64 l) n]))]) (nx' := 2) (by kernel_rfl) ⟨by omega, by omega⟩ ?_
            exact Rd.of ⟨((k + 1) : Nat), (show ((k + 1) ≤ n) ∧ (∀ j, j < (k + 1) → vaE l j = true) from ⟨(by first | omega | assumption | simp), (fun j hj => (Nat.lt_succ_iff_lt_or_eq.1 hj).elim (ha j) (fun e9 => by subst e9; exact decide_eq_true (by omega)))⟩)⟩ [] (P := ((0 : Nat) = 0) ∧ (((dI .i64 l) : List D) = (dI .i64 l)) ∧ ((n : Nat) = n) ∧ ((((n : Nat) : Int) : Int) = ((n : Nat) : Int)) ∧ (((((k + 1) : Nat) : Int) : Int) = (((k : Nat) : Int) + 1)) ∧ (([D.sl (dI .i64 l) n] : List D) = [D.sl (dI .i64 l) n])) (by kernel_rfl) ⟨rfl, rfl, rfl, rfl, (by first | rfl | omega | assumption | (simp; done) | (simp; omega)), rfl⟩ (show n - (k + 1) < n - k from (by first | omega | (show _ < _; simp; omega)))
        · refine AW.rgs [.no, .call [] (bV true) [] 0 [] none, .no, .no, .no, .b false, .no, .no, .no] [1, 10, 11, 12, 36] [0] (P := (Fun 27 [.agg [iC (List.getD l (k * 2) 0), iC (List.getD l ((k * 2) + 1) 0)]] (toG []) 0 (bV true) (toG []) 0) ∧ (¬ ((0 : Int) < ((k : Nat) : Int)))) (l' := [(1, rV 0 0), (10, sV .i64 l n), (11, iV ↑n), (12, iV ↑k), (36, bV false)]) (g' := [(0, some (24, .ds [D.sl (dI .i64 l) n]))]) (nx' := 2) (by kernel_rfl) ⟨(by have h0 := (U_isSpan (List.getD l (k * 2) 0) (List.getD l ((k * 2) + 1) 0)); rw [hx3] at h0; exact h0), (by omega)⟩ ?_
          refine AW.cond_f (.tmp (Look.of rfl)) ?_
          refine AW.skip ?_
          refine AW.rg [.w, .no] [1, 10, 11, 12] [0] (P := ((-9223372036854775808) ≤ (((k : Nat) : Int) + 1) ∧ (((k : Nat) : Int) + 1) ≤ 9223372036854775807)) (l' := [(1, rV 0 0), (10, sV .i64 l n), (11, iV ↑n), (12, iV (↑k + 1))]) (g' := [(0, some (24, .ds [D.sl (dI .i64 l) n]))]) (nx' := 2) (by kernel_rfl) ⟨by omega, by omega⟩ ?_
          exact Rd.of ⟨((k + 1) : Nat), (show ((k + 1) ≤ n) ∧ (∀ j, j < (k + 1) → vaE l j = true) from ⟨(by first | omega | assumption | simp), (fun j hj => (Nat.lt_succ_iff_lt_or_eq.1 hj).elim (ha j) (fun e9 => by subst e9; exact decide_eq_true (by omega)))⟩)⟩ [] (P := ((0 : Nat) = 0) ∧ (((dI .i64 l) : List D) = (dI .i64 l)) ∧ ((n : Nat) = n) ∧ ((((n : Nat) : Int) : Int) = ((n : Nat) : Int)) ∧ (((((k + 1) : Nat) : Int) : Int) = (((k : Nat) : Int) + 1)) ∧ (([D.sl (dI .i64 l) n] : List D) = [D.sl (dI .i64 l) n])) (by kernel_rfl) ⟨rfl, rfl, rfl, rfl, (by first | rfl | omega | assumption | (simp; done) | (simp; omega)), rfl⟩ (show n - (k + 1) < n - k from (by first | omega | (show _ < _; simp; omega)))
      · have hx10 : ¬ (((0 : Int) ≤ (List.getD l (k * 2) 0)) ∧ (((List.getD l (k * 2) 0) ≤ (List.getD l ((k * 2) + 1) 0)) ∧ ((List.getD l ((k * 2) + 1) 0) ≤ 2147483647))) := of_decide_eq_false hx3
        refine AW.rgs [.no, .call [] (bV false) [] 0 [] none, .no, .no, .no] [1, 10, 11, 12, 36] [0] (P := (Fun 27 [.agg [iC (List.getD l (k * 2) 0), iC (List.getD l ((k * 2) + 1) 0)]] (toG []) 0 (bV false) (toG []) 0)) (l' := [(1, rV 0 0), (10, sV .i64 l n), (11, iV ↑n), (12, iV ↑k), (36, bV true)]) (g' := [(0, some (24, .ds [D.sl (dI .i64 l) n]))]) (nx' := 2) (by kernel_rfl) (by have h0 := (U_isSpan (List.getD l (k * 2) 0) (List.getD l ((k * 2) + 1) 0)); rw [hx3] at h0; exact h0) ?_
        refine AW.cond_t (.tmp (Look.of rfl)) ?_
        refine AW.rgs [.no] [2] [] (P := True) (l' := [(2, bV false)]) (g' := []) (nx' := 2) (by kernel_rfl) trivial ?_
        refine AW.ret ?_
        exact EndP.of (.inr rfl) [] (P := ((vaB l n) = false)) (by kernel_rfl) (by first | exact vaB_t (by omega) (fun j hj => ha j (by omega)) | exact vaB_f (by omega) | exact vaB_s (k := k) (by omega) (decide_eq_false (by omega)))
    · refine AW.rgs [.b false] [1, 10, 11, 12, 13] [0] (P := (¬ (((k : Nat) : Int) < ((n : Nat) : Int)))) (l' := [(1, rV 0 0), (10, sV .i64 l n), (11, iV ↑n), (12, iV ↑k), (13, bV false)]) (g' := [(0, some (24, .ds [D.sl (dI .i64 l) n]))]) (nx' := 1) (by kernel_rfl) (by omega) ?_
      refine AW.seq ?_
      refine AW.cond_f (.tmp (Look.of rfl)) ?_
      refine AW.exit ?_
      refine AW.rgs [.no] [2] [] (P := True) (l' := [(2, bV true)]) (g' := []) (nx' := 1) (by kernel_rfl) trivial ?_
      refine AW.ret ?_
      exact EndP.of (.inr rfl) [] (P := ((vaB l n) = true)) (by kernel_rfl) (by first | exact vaB_t (by omega) (fun j hj => ha j (by omega)) | exact vaB_f (by omega) | exact vaB_s (k := k) (by omega) (decide_eq_false (by omega)))

set_option maxHeartbeats 4000000 in
set_option maxRecDepth 100000 in
theorem U_rValid (l : List Int) (n : Nat) (hl : List.length l = n * 2) (hb : n ≤ 9223372036854775807) : Fun 15 [.agg [.d (D.sl (dI .i64 l) n)]] (toG []) 0 (.e (.c (.d (D.lit (.bool (vaB l n)))))) (toG []) 0 := by
  refine Fun.mk (n := 50) Try.func15 rfl rfl (Nat.le_of_ble_eq_true rfl) ?_
  intro cx hcx
  refine AW.rgs [.no, .no] [1] [0] (P := True) (l' := [(1, rV 0 0)]) (g' := [(0, some (24, .ds [D.sl (dI .i64 l) n]))]) (nx' := 1) (by kernel_rfl) trivial ?_
  refine AW.seq ?_
  refine AW.rgs [.no, .no, .no, .no] [1, 6, 7, 8] [0] (P := True) (l' := [(1, rV 0 0), (6, sV .i64 l n), (7, iV ↑n), (8, iV 0)]) (g' := [(0, some (24, .ds [D.sl (dI .i64 l) n]))]) (nx' := 1) (by kernel_rfl) trivial ?_
  refine AW.block ?_
  refine AW.loopE 0 hcx (fun (x : {x : Nat // match x with | k => (k ≤ n) ∧ (∀ j, j < k → vaE l j = true)}) => match x with | ⟨k, _⟩ => (⟨[(1, rV 0 0), (6, sV .i64 l n), (7, iV ((n : Nat) : Int)), (8, iV ((k : Nat) : Int))], [(0, some (24, .ds [D.sl (dI .i64 l) n]))], 1⟩ : ES)) (fun (x : {x : Nat // match x with | k => (k ≤ n) ∧ (∀ j, j < k → vaE l j = true)}) => match x with | ⟨k, _⟩ => n - k) ⟨(0 : Nat), (show ((0 : Nat) ≤ n) ∧ (∀ j, j < (0 : Nat) → vaE l j = true) from ⟨(by first | omega | assumption | simp), (fun j hj => absurd hj (Nat.not_lt_zero j))⟩)⟩ [] (P := ((0 : Nat) = 0) ∧ (((dI .i64 l) : List D) = (dI .i64 l)) ∧ ((n : Nat) = n) ∧ ((((n : Nat) : Int) : Int) = ((n : Nat) : Int)) ∧ ((0 : Int) = 0) ∧ (([D.sl (dI .i64 l) n] : List D) = [D.sl (dI .i64 l) n])) (by kernel_rfl) ⟨rfl, rfl, rfl, rfl, rfl, rfl⟩ ?_
  rintro ⟨k, hinv0⟩
  obtain ⟨hk, ha⟩ : (k ≤ n) ∧ (∀ j, j < k → vaE l j = true) := hinv0
  refine AW.es (l := [(1, rV 0 0), (6, sV .i64 l n), (7, iV ((n : Nat) : Int)), (8, iV ((k : Nat) : Int))]) (g := [(0, some (24, .ds [D.sl (dI .i64 l) n]))]) (nx := 1) rfl rfl rfl ?_
  by_cases hx1 : (((k : Nat) : Int) < ((n : Nat) : Int))
  · refine AW.rgs [.b true] [1, 6, 7, 8, 9] [0] (P := ((((k : Nat) : Int) < ((n : Nat) : Int)))) (l' := [(1, rV 0 0), (6, sV .i64 l n), (7, iV ↑n), (8, iV ↑k), (9, bV true)]) (g' := [(0, some (24, .ds [D.sl (dI .i64 l) n]))]) (nx' := 1) (by kernel_rfl) (by omega) ?_
    refine AW.seq ?_
    refine AW.cond_t (.tmp (Look.of rfl)) ?_
    refine AW.skip ?_
    refine AW.seq ?_
    refine AW.block ?_
    refine AW.rgs [.no, .n k, .ds [iD (List.getD l (k * 2) 0), iD (List.getD l ((k * 2) + 1) 0)], .no, .no, .no] [1, 3, 4, 6, 7, 8] [0, 1] (P := ((((k : Nat) : Int) : Int) = ((k : Nat) : Int)) ∧ (k < n) ∧ (List.take 2 (List.drop (k * 2) (dI .i64 l)) = [iD (List.getD l (k * 2) 0), iD (List.getD l ((k * 2) + 1) 0)]) ∧ (([iD (List.getD l (k * 2) 0), iD (List.getD l ((k * 2) + 1) 0)] : List D).length = 2)) (l' := [(1, rV 0 0), (3, iV ↑k), (4, rV 1 0), (6, sV .i64 l n), (7, iV ↑n), (8, iV ↑k)]) (g' := [(0, some (24, .ds [D.sl (dI .i64 l) n])), (1, some (46, .ds [iD (List.getD l (k * 2) 0), iD (List.getD l ((k * 2) + 1) 0)]))]) (nx' := 2) (by kernel_rfl) ⟨rfl, (by omega), (dI_lds .i64 l (k * 2) 2 (by first | omega | (simp only [bsD_len, dI_len, List.length_append, List.length_cons, List.length_nil, List.length_take, List.length_drop, List.length_replicate, List.length_set, List.length_map, List.length_reverse, Nat.mul_one] <;> omega) | rfl)), rfl⟩ ?_
    by_cases hx2 : ((List.getD l (k * 2) 0) < 0)
    · refine AW.rgs [.no, .no, .b true, .no, .no, .no, .no, .no, .no] [1, 6, 7, 8, 44] [0] (P := (((List.getD l (k * 2) 0) < 0))) (l' := [(1, rV 0 0), (6, sV .i64 l n), (7, iV ↑n), (8, iV ↑k), (44, bV true)]) (g' := [(0, some (24, .ds [D.sl (dI .i64 l) n]))]) (nx' := 2) (by kernel_rfl) (by omega) ?_
      refine AW.cond_t (.tmp (Look.of rfl)) ?_
      refine AW.rgs [.no] [2] [] (P := True) (l' := [(2, bV false)]) (g' := []) (nx' := 2) (by kernel_rfl) trivial ?_
      refine AW.ret ?_
      exact EndP.of (.inr rfl) [] (P := ((vaB l n) = false)) (by kernel_rfl) (by first | exact vaB_t (by omega) (fun j hj => ha j (by omega)) | exact vaB_f (by omega) | exact vaB_s (k := k) (by omega) (decide_eq_false (by omega)))
    · by_cases hx3 : ((List.getD l ((k * 2) + 1) 0) < (List.getD l (k * 2) 0))
      · refine AW.rgs [.no, .no, .b false, .no, .no, .no, .no, .no, .b true, .no, .no, .no, .no, .no] [1, 6, 7, 8, 44] [0] (P := (¬ ((List.getD l (k * 2) 0) < 0)) ∧ (((List.getD l ((k * 2) + 1) 0) < (List.getD l (k * 2) 0)))) (l' := [(1, rV 0 0), (6, sV .i64 l n), (7, iV ↑n), (8, iV ↑k), (44, bV true)]) (g' := [(0, some (24, .ds [D.sl (dI .i64 l) n]))]) (nx' := 2) (by kernel_rfl) ⟨(by omega), (by omega)⟩ ?_
        refine AW.cond_t (.tmp (Look.of rfl)) ?_
        refine AW.rgs [.no] [2] [] (P := True) (l' := [(2, bV false)]) (g' := []) (nx' := 2) (by kernel_rfl) trivial ?_
        refine AW.ret ?_
        exact EndP.of (.inr rfl) [] (P := ((vaB l n) = false)) (by kernel_rfl) (by first | exact vaB_t (by omega) (fun j hj => ha j (by omega)) | exact vaB_f (by omega) | exact vaB_s (k := k) (by omega) (decide_eq_false (by omega)))
      · by_cases hx4 : ((2147483647 : Int) < (List.getD l ((k * 2) + 1) 0))
        · refine AW.rgs [.no, .no, .b false, .no, .no, .no, .no, .no, .b false, .no, .no, .no, .no, .b true, .no, .no, .no] [1, 6, 7, 8, 44] [0] (P := (¬ ((List.getD l (k * 2) 0) < 0)) ∧ (¬ ((List.getD l ((k * 2) + 1) 0) < (List.getD l (k * 2) 0))) ∧ (((2147483647 : Int) < (List.getD l ((k * 2) + 1) 0)))) (l' := [(1, rV 0 0), (6, sV .i64 l n), (7, iV ↑n), (8, iV ↑k), (44, bV true)]) (g' := [(0, some (24, .ds [D.sl (dI .i64 l) n]))]) (nx' := 2) (by kernel_rfl) ⟨(by omega), (by omega), (by omega)⟩ ?_
          refine AW.cond_t (.tmp (Look.of rfl)) ?_
          refine AW.rgs [.no] [2] [] (P := True) (l' := [(2, bV false)]) (g' := []) (nx' := 2) (by kernel_rfl) trivial ?_
          refine AW.ret ?_
          exact EndP.of (.inr rfl) [] (P := ((vaB l n) = false)) (by kernel_rfl) (by first | exact vaB_t (by omega) (fun j hj => ha j (by omega)) | exact vaB_f (by omega) | exact vaB_s (k := k) (by omega) (decide_eq_false (by omega)))
        · by_cases hx5 : ((0 : Int) < ((k : Nat) : Int))
          · by_cases hx7 : (((List.getD l (k * 2) 0) - 1) ≤ (List.getD l (((k - 1) * 2) + 1) 0))
            · have hx8 : 0 ≤ List.getD l ((k - 1) * 2 + 1) 0 ∧ List.getD l ((k - 1) * 2 + 1) 0 ≤ 2147483647 := va_prev ha (by omega)
              refine AW.rgs [.no, .no, .b false, .no, .no, .no, .no, .no, .b false, .no, .no, .no, .no, .b false, .no, .no, .no, .b true, .no, .no, .no, .w, .no, .no, .no, .w, .n (k - 1), .no, .d (D.lit (.int .i64 (List.getD l (((k - 1) * 2) + 1) 0))), .b true, .no, .no] [1, 6, 7, 8, 44] [0] (P := (¬ ((List.getD l (k * 2) 0) < 0)) ∧ (¬ ((List.getD l ((k * 2) + 1) 0) < (List.getD l (k * 2) 0))) ∧ (¬ ((2147483647 : Int) < (List.getD l ((k * 2) + 1) 0))) ∧ (((0 : Int) < ((k : Nat) : Int))) ∧ ((-9223372036854775808) ≤ ((List.getD l (k * 2) 0) - 1) ∧ ((List.getD l (k * 2) 0) - 1) ≤ 9223372036854775807) ∧ ((-9223372036854775808) ≤ (((k : Nat) : Int) - 1) ∧ (((k : Nat) : Int) - 1) ≤ 9223372036854775807) ∧ (((((k : Nat) : Int) - 1) : Int) = (((k - 1) : Nat) : Int)) ∧ ((k - 1) < n) ∧ ((List.drop 1 (List.drop ((k - 1) * 2) (dI .i64 l)))[0]? = some (D.lit (.int .i64 (List.getD l (((k - 1) * 2) + 1) 0)))) ∧ ((((List.getD l (k * 2) 0) - 1) ≤ (List.getD l (((k - 1) * 2) + 1) 0)))) (l' := [(1, rV 0 0), (6, sV .i64 l n), (7, iV ↑n), (8, iV ↑k), (44, bV true)]) (g' := [(0, some (24, .ds [D.sl (dI .i64 l) n]))]) (nx' := 2) (by kernel_rfl) ⟨(by omega), (by omega), (by omega), (by omega), ⟨by omega, by omega⟩, ⟨by omega, by omega⟩, (by first | rfl | omega), (by omega), (by first | (rw [List.drop_drop]; exact dI_at _ _ _ (by first | omega | (simp only [bsD_len, dI_len, List.length_append, List.length_cons, List.length_nil, List.length_take, List.length_drop, List.length_replicate, List.length_set, List.length_map, List.length_reverse, Nat.mul_one] <;> omega) | rfl)) | (rw [List.drop_drop, Nat.add_comm]; exact dI_at _ _ _ (by first | omega | (simp only [bsD_len, dI_len, List.length_append, List.length_cons, List.length_nil, List.length_take, List.length_drop, List.length_replicate, List.length_set, List.length_map, List.length_reverse, Nat.mul_one] <;> omega) | rfl))), (by omega)⟩ ?_
              refine AW.cond_t (.tmp (Look.of rfl)) ?_
              refine AW.rgs [.no] [2] [] (P := True) (l' := [(2, bV false)]) (g' := []) (nx' := 2) (by kernel_rfl) trivial ?_
              refine AW.ret ?_
              exact EndP.of (.inr rfl) [] (P := ((vaB l n) = false)) (by kernel_rfl) (by first | exact vaB_t (by omega) (fun j hj => ha j (by omega)) | exact vaB_f (by omega) | exact vaB_s (k := k) (by omega) (decide_eq_false (by omega)))
            · have hx9 : 0 ≤ List.getD l ((k - 1) * 2 + 1) 0 ∧ List.getD l ((k - 1) * 2 + 1) 0 ≤ 2147483647 := va_prev ha (by omega)
              refine AW.rgs [.no, .no, .b false, .no, .no, .no, .no, .no, .b false, .no, .no, .no, .no, .b false, .no, .no, .no, .b true, .no, .no, .no, .w, .no, .no, .no, .w, .n (k - 1), .no, .d (D.lit (.int .i64 (List.getD l (((k - 1) * 2) + 1) 0))), .b false, .no, .no] [1, 6, 7, 8, 44] [0] (P := (¬ ((List.getD l (k * 2) 0) < 0)) ∧ (¬ ((List.getD l ((k * 2) + 1) 0) < (List.getD l (k * 2) 0))) ∧ (¬ ((2147483647 : Int) < (List.getD l ((k * 2) + 1) 0))) ∧ (((0 : Int) < ((k : Nat) : Int))) ∧ ((-9223372036854775808) ≤ ((List.getD l (k * 2) 0) - 1) ∧ ((List.getD l (k * 2) 0) - 1) ≤ 9223372036854775807) ∧ ((-9223372036854775808) ≤ (((k : Nat) : Int) - 1) ∧ (((k : Nat) : Int) - 1) ≤ 9223372036854775807) ∧ (((((k : Nat) : Int) - 1) : Int) = (((k - 1) : Nat) : Int)) ∧ ((k - 1) < n) ∧ ((List.drop 1 (List.drop ((k - 1) * 2) (dI .i64 l)))[0]? = some (D.lit (.int .i64 (List.getD l (((k - 1) * 2) + 1) 0)))) ∧ (¬ (((List.getD l (k * 2) 0) - 1) ≤ (List.getD l (((k - 1) * 2) + 1) 0)))) (l' := [(1, rV 0 0), (6, sV .i64 l n), (7, iV ↑n), (8, iV ↑k), (44, bV false)]) (g' := [(0, some (24, .ds [D.sl (dI .i64 l) n]))]) (nx' := 2) (by kernel_rfl) ⟨(by omega), (by omega), (by omega), (by omega), ⟨by omega, by omega⟩, ⟨by omega, by omega⟩, (by first | rfl | omega), (by omega), (by first | (rw [List.drop_drop]; exact dI_at _ _ _ (by first | omega | (simp only [bsD_len, dI_len, List.length_append, List.length_cons, List.length_nil, List.length_take, List.length_drop, List.length_replicate, List.length_set, List.length_map, List.length_reverse, Nat.mul_one] <;> omega) | rfl)) | (rw [List.drop_drop, Nat.add_comm]; exact dI_at _ _ _ (by first | omega | (simp only [bsD_len, dI_len, List.length_append, List.length_cons, List.length_nil, List.length_take, List.length_drop, List.length_replicate, List.length_set, List.length_map, List.length_reverse, Nat.mul_one] <;> omega) | rfl))), (by omega)⟩ ?_
              refine AW.cond_f (.tmp (Look.of rfl)) ?_
              refine AW.skip ?_
              refine AW.rg [.w, .no] [1, 6, 7, 8] [0] (P := ((-9223372036854775808) ≤ (((k : Nat) : Int) + 1) ∧ (((k : Nat) : Int) + 1) ≤ 9223372036854775807)) (l' := [(1, rV 0 0), (6, sV .i64 l n), (7, iV ↑n), (8, iV (↑k + 1))]) (g' := [(0, some (24, .ds [D.sl (dI .i64 l) n]))]) (nx' := 2) (by kernel_rfl) ⟨by omega, by omega⟩ ?_
              exact Rd.of ⟨((k + 1) : Nat), (show ((k + 1) ≤ n) ∧ (∀ j, j < (k + 1) → vaE l j = true) from ⟨(by first | omega | assumption | simp), (fun j hj => (Nat.lt_succ_iff_lt_or_eq.1 hj).elim (ha j) (fun e9 => by subst e9; exact decide_eq_true (by omega)))⟩)⟩ [] (P := ((0 : Nat) = 0) ∧ (((dI .i64 l) : List D) = (dI .i64 l)) ∧ ((n : Nat) = n) ∧ ((((n : Nat) : Int) : Int) = ((n : Nat) : Int)) ∧ (((((k + 1) : Nat) : Int) : Int) = (((k : Nat) : Int) + 1)) ∧ (([D.sl (dI .i64 l) n] : List D) = [D.sl (dI .i64 l) n])) (by kernel_rfl) ⟨rfl, rfl, rfl, rfl, (by first | rfl | omega | assumption | (simp; done) | (simp; omega)), rfl⟩ (show n - (k + 1) < n - k from (by first | omega | (show _ < _; simp; omega)))
          · refine AW.rgs [.no, .no, .b false, .no, .no, .no, .no, .no, .b false, .no, .no, .no, .no, .b false, .no, .no, .no, .b false, .no, .no, .no] [1, 6, 7, 8, 44] [0] (P := (¬ ((List.getD l (k * 2) 0) < 0)) ∧ (¬ ((List.getD l ((k * 2) + 1) 0) < (List.getD l (k * 2) 0))) ∧ (¬ ((2147483647 : Int) < (List.getD l ((k * 2) + 1) 0))) ∧ (¬ ((0 : Int) < ((k : Nat) : Int)))) (l' := [(1, rV 0 0), (6, sV .i64 l n), (7, iV ↑n), (8, iV ↑k), (44, bV false)]) (g' := [(0, some (24, .ds [D.sl (dI .i64 l) n]))]) (nx' := 2) (by kernel_rfl) ⟨(by omega), (by omega), (by omega), (by omega)⟩ ?_
            refine AW.cond_f (.tmp (Look.of rfl)) ?_
            refine AW.skip ?_
            refine AW.rg [.w, .no] [1, 6, 7, 8] [0] (P := ((-9223372036854775808) ≤ (((k : Nat) : Int) + 1) ∧ (((k : Nat) : Int) + 1) ≤ 9223372036854775807)) (l' := [(1, rV 0 0), (6, sV .i64 l n), (7, iV ↑n), (8, iV (↑k + 1))]) (g' := [(0, some (24, .ds [D.sl (dI .i64 l) n]))]) (nx' := 2) (by kernel_rfl) ⟨by omega, by omega⟩ ?_
            exact Rd.of ⟨((k + 1) : Nat), (show ((k + 1) ≤ n) ∧ (∀ j, j < (k + 1) → vaE l j = true) from ⟨(by first | omega | assumption | simp), (fun j hj => (Nat.lt_succ_iff_lt_or_eq.1 hj).elim (ha j) (fun e9 => by subst e9; exact decide_eq_true (by omega)))⟩)⟩ [] (P := ((0 : Nat) = 0) ∧ (((dI .i64 l) : List D) = (dI .i64 l)) ∧ ((n : Nat) = n) ∧ ((((n : Nat) : Int) : Int) = ((n : Nat) : Int)) ∧ (((((k + 1) : Nat) : Int) : Int) = (((k : Nat) : Int) + 1)) ∧ (([D.sl (dI .i64 l) n] : List D) = [D.sl (dI .i64 l) n])) (by kernel_rfl) ⟨rfl, rfl, rfl, rfl, (by first | rfl | omega | assumption | (simp; done) | (simp; omega)), rfl⟩ (show n - (k + 1) < n - k from (by first | omega | (show _ < _; simp; omega)))
  · refine AW.rgs [.b false] [1, 6, 7, 8, 9] [0] (P := (¬ (((k : Nat) : Int) < ((n : Nat) : Int)))) (l' := [(1, rV 0 0), (6, sV .i64 l n), (7, iV ↑n), (8, iV ↑k), (9, bV false)]) (g' := [(0, some (24, .ds [D.sl (dI .i64 l) n]))]) (nx' := 1) (by kernel_rfl) (by omega) ?_
    refine AW.seq ?_
    refine AW.cond_f (.tmp (Look.of rfl)) ?_
    refine AW.exit ?_
    by_cases hx10 : (((n : Nat) : Int) ≤ 64)
    · refine AW.rgs [.no, .no, .no, .b true, .no] [2] [] (P := ((((n : Nat) : Int) ≤ 64))) (l' := [(2, bV true)]) (g' := []) (nx' := 1) (by kernel_rfl) (by omega) ?_
      refine AW.ret ?_
      exact EndP.of (.inr rfl) [] (P := ((vaB l n) = true)) (by kernel_rfl) (by first | exact vaB_t (by omega) (fun j hj => ha j (by omega)) | exact vaB_f (by omega) | exact vaB_s (k := k) (by omega) (decide_eq_false (by omega)))
    · have hx11 : 0 ≤ List.getD l ((k - 1) * 2 + 1) 0 ∧ List.getD l ((k - 1) * 2 + 1) 0 ≤ 2147483647 := va_prev ha (by omega)
      refine AW.rgs [.no, .no, .no, .b false, .no] [2] [] (P := (¬ (((n : Nat) : Int) ≤ 64))) (l' := [(2, bV false)]) (g' := []) (nx' := 1) (by kernel_rfl) (by omega) ?_
      refine AW.ret ?_
      exact EndP.of (.inr rfl) [] (P := ((vaB l n) = false)) (by kernel_rfl) (by first | exact vaB_t (by omega) (fun j hj => ha j (by omega)) | exact vaB_f (by omega) | exact vaB_s (k := k) (by omega) (decide_eq_false (by omega)))

set_option maxHeartbeats 4000000 in
set_option maxRecDepth 100000 in
theorem U_spans (l : List Int) (n : Nat) (hl : List.length l = n * 2) (hb : n ≤ 9223372036854775807) : Fun 33 [.agg [.d (D.sl (dI .i64 l) n)]] (toG []) 0 (sV .i64 (spS l n) (spN l n)) (toG []) 0 := by
  refine Fun.mk (n := 8) Try.func33 rfl rfl (Nat.le_of_ble_eq_true rfl) ?_
  intro cx hcx
  refine AW.rgs [.no, .no] [1] [0] (P := True) (l' := [(1, rV 0 0)]) (g' := [(0, some (24, .ds [D.sl (dI .i64 l) n]))]) (nx' := 1) (by kernel_rfl) trivial ?_
  refine AW.seq ?_
  rcases Bool.eq_false_or_eq_true (vaB l n) with hx1 | hx1
  · refine AW.rgs [.no, .call [] (bV true) [] 0 [] none, .no] [1, 5] [0] (P := (Fun 14 [.agg [.d (D.sl (dI .i64 l) n)]] (toG []) 0 (bV true) (toG []) 0)) (l' := [(1, rV 0 0), (5, bV false)]) (g' := [(0, some (24, .ds [D.sl (dI .i64 l) n]))]) (nx' := 1) (by kernel_rfl) (by have h0 := (U_Valid l n (by omega) (by omega)); rw [hx1] at h0; exact h0) ?_
    refine AW.cond_f (.tmp (Look.of rfl)) ?_
    refine AW.skip ?_
    refine AW.rgs [.no, .no, .no] [2] [] (P := True) (l' := [(2, sV .i64 l n)]) (g' := []) (nx' := 1) (by kernel_rfl) trivial ?_
    obtain ⟨hz1, hz2⟩ := sp_y hx1
    refine AW.ret ?_
    exact EndP.of (.inr rfl) [] (P := (((dI .i64 (spS l n)) : List D) = (dI .i64 l)) ∧ (((spN l n) : Nat) = n)) (by kernel_rfl) ⟨(by first | (rw [hz1]; done) | (rw [hz1]; rfl)), (by first | omega | rfl | assumption | (simp; done) | (simp; omega))⟩
  · refine AW.rgs [.no, .call [] (bV false) [] 0 [] none, .no] [1, 5] [0] (P := (Fun 14 [.agg [.d (D.sl (dI .i64 l) n)]] (toG []) 0 (bV false) (toG []) 0)) (l' := [(1, rV 0 0), (5, bV true)]) (g' := [(0, some (24, .ds [D.sl (dI .i64 l) n]))]) (nx' := 1) (by kernel_rfl) (by have h0 := (U_Valid l n (by omega) (by omega)); rw [hx1] at h0; exact h0) ?_
    refine AW.cond_t (.tmp (Look.of rfl)) ?_
    refine AW.rgs [.no] [2] [] (P := True) (l' := [(2, nV)]) (g' := []) (nx' := 1) (by kernel_rfl) trivial ?_
    obtain ⟨hz1, hz2⟩ := sp_n hx1
    refine AW.rel (l' := [(2, .e (.c (.d (D.sl ([] : List D) 0))))]) (g' := []) (NlS.cons rfl (.e (.c .nil)) NlS.nil) NlG.nil ?_
    refine AW.ret ?_
    exact EndP.of (.inr rfl) [] (P := (((dI .i64 (spS l n)) : List D) = ([] : List D)) ∧ (((spN l n) : Nat) = 0)) (by kernel_rfl) ⟨(by first | (rw [hz1]; done) | (rw [hz1]; rfl)), (by first | omega | rfl | assumption | (simp; done) | (simp; omega))⟩

set_option maxHeartbeats 4000000 in
set_option maxRecDepth 100000 in
theorem U_rspans (l : List Int) (n : Nat) (hl : List.length l = n * 2) (hb : n ≤ 9223372036854775807) : Fun 34 [.agg [.d (D.sl (dI .i64 l) n)]] (toG []) 0 (sV .i64 (spS l n) (spN l n)) (toG []) 0 := by
  refine Fun.mk (n := 8) Try.func34 rfl rfl (Nat.le_of_ble_eq_true rfl) ?_
  intro cx hcx
  refine AW.rgs [.no, .no] [1] [0] (P := True) (l' := [(1, rV 0 0)]) (g' := [(0, some (24, .ds [D.sl (dI .i64 l) n]))]) (nx' := 1) (by kernel_rfl) trivial ?_
  refine AW.seq ?_
  rcases Bool.eq_false_or_eq_true (vaB l n) with hx1 | hx1
  · refine AW.rgs [.no, .call [] (bV true) [] 0 [] none, .no] [1, 5] [0] (P := (Fun 15 [.agg [.d (D.sl (dI .i64 l) n)]] (toG []) 0 (bV true) (toG []) 0)) (l' := [(1, rV 0 0), (5, bV false)]) (g' := [(0, some (24, .ds [D.sl (dI .i64 l) n]))]) (nx' := 1) (by kernel_rfl) (by have h0 := (U_rValid l n (by omega) (by omega)); rw [hx1] at h0; exact h0) ?_
    refine AW.cond_f (.tmp (Look.of rfl)) ?_
    refine AW.skip ?_
    refine AW.rgs [.no, .no, .no] [2] [] (P := True) (l' := [(2, sV .i64 l n)]) (g' := []) (nx' := 1) (by kernel_rfl) trivial ?_
    obtain ⟨hz1, hz2⟩ := sp_y hx1
    refine AW.ret ?_
    exact EndP.of (.inr rfl) [] (P := (((dI .i64 (spS l n)) : List D) = (dI .i64 l)) ∧ (((spN l n) : Nat) = n)) (by kernel_rfl) ⟨(by first | (rw [hz1]; done) | (rw [hz1]; rfl)), (by first | omega | rfl | assumption | (simp; done) | (simp; omega))⟩
  · refine AW.rgs [.no, .call [] (bV false) [] 0 [] none, .no] [1, 5] [0] (P := (Fun 15 [.agg [.d (D.sl (dI .i64 l) n)]] (toG []) 0 (bV false) (toG []) 0)) (l' := [(1, rV 0 0), (5, bV true)]) (g' := [(0, some (24, .ds [D.sl (dI .i64 l) n]))]) (nx' := 1) (by kernel_rfl) (by have h0 := (U_rValid l n (by omega) (by omega)); rw [hx1] at h0; exact h0) ?_
    refine AW.cond_t (.tmp (Look.of rfl)) ?_
    refine AW.rgs [.no] [2] [] (P := True) (l' := [(2, nV)]) (g' := []) (nx' := 1) (by kernel_rfl) trivial ?_
    obtain ⟨hz1, hz2⟩ := sp_n hx1
    refine AW.rel (l' := [(2, .e (.c (.d (D.sl ([] : List D) 0))))]) (g' := []) (NlS.cons rfl (.e (.c .nil)) NlS.nil) NlG.nil ?_
    refine AW.ret ?_
    exact EndP.of (.inr rfl) [] (P := (((dI .i64 (spS l n)) : List D) = ([] : List D)) ∧ (((spN l n) : Nat) = 0)) (by kernel_rfl) ⟨(by first | (rw [hz1]; done) | (rw [hz1]; rfl)), (by first | omega | rfl | assumption | (simp; done) | (simp; omega))⟩

set_option maxHeartbeats 4000000 in
set_option maxRecDepth 100000 in
theorem U_Has (l : List Int) (n : Nat) (z : Int) (hl : List.length l = n * 2) (hb : n ≤ 9223372036854775807) : Fun 16 [.agg [.d (D.sl (dI .i64 l) n)], iE z] (toG []) 0 (.e (.c (.d (D.lit (.bool (hsB (spS l n) z)))))) (toG []) 0 := by
  refine Fun.mk (n := 25) Try.func16 rfl rfl (Nat.le_of_ble_eq_true rfl) ?_
  intro cx hcx
  refine AW.rgs [.no, .no] [1, 2] [0] (P := True) (l' := [(1, iV z), (2, rV 0 0)]) (g' := [(0, some (24, .ds [D.sl (dI .i64 l) n]))]) (nx' := 1) (by kernel_rfl) trivial ?_
  refine AW.seq ?_
  have hx1 : ((List.length (spS l n)) = ((spN l n) * 2)) := sp_len ((by omega))
  have hx2 : (((spN l n) ≤ 64) ∧ ((spN l n) ≤ n)) := sp_le
  refine AW.rgs [.no, .call [] (sV .i64 (spS l n) (spN l n)) [] 0 [] none, .no, .no] [1, 8, 9, 10] [] (P := (_)) (l' := [(1, iV z), (8, sV .i64 (spS l n) (spN l n)), (9, iV (((spN l n) : Nat) : Int)), (10, iV 0)]) (g' := []) (nx' := 1) (by kernel_rfl) (U_spans l n (by omega) (by omega)) ?_
  refine AW.block ?_
  refine AW.loopE 0 hcx (fun (x : {x : Nat // match x with | k => (k ≤ spN l n) ∧ (∀ j, j < k → ¬ (List.getD (spS l n) (j * 2) 0 ≤ z ∧ z ≤ List.getD (spS l n) (j * 2 + 1) 0))}) => match x with | ⟨k, _⟩ => (⟨[(1, iV z), (8, sV .i64 (spS l n) (spN l n)), (9, iV (((spN l n) : Nat) : Int)), (10, iV ((k : Nat) : Int))], [], 1⟩ : ES)) (fun (x : {x : Nat // match x with | k => (k ≤ spN l n) ∧ (∀ j, j < k → ¬ (List.getD (spS l n) (j * 2) 0 ≤ z ∧ z ≤ List.getD (spS l n) (j * 2 + 1) 0))}) => match x with | ⟨k, _⟩ => spN l n - k) ⟨(0 : Nat), (show ((0 : Nat) ≤ spN l n) ∧ (∀ j, j < (0 : Nat) → ¬ (List.getD (spS l n) (j * 2) 0 ≤ z ∧ z ≤ List.getD (spS l n) (j * 2 + 1) 0)) from ⟨(by first | omega | assumption | simp), (fun j hj => absurd hj (Nat.not_lt_zero j))⟩)⟩ [] (P := ((z : Int) = z) ∧ (((dI .i64 (spS l n)) : List D) = (dI .i64 (spS l n))) ∧ (((spN l n) : Nat) = (spN l n)) ∧ (((((spN l n) : Nat) : Int) : Int) = (((spN l n) : Nat) : Int)) ∧ ((0 : Int) = 0)) (by kernel_rfl) ⟨rfl, rfl, rfl, rfl, rfl⟩ ?_
  rintro ⟨k, hinv0⟩
  obtain ⟨hk, ha⟩ : (k ≤ spN l n) ∧ (∀ j, j < k → ¬ (List.getD (spS l n) (j * 2) 0 ≤ z ∧ z ≤ List.getD (spS l n) (j * 2 + 1) 0)) := hinv0
  refine AW.es (l := [(1, iV z), (8, sV .i64 (spS l n) (spN l n)), (9, iV (((spN l n) : Nat) : Int)), (10, iV ((k : Nat) : Int))]) (g := []) (nx := 1) rfl rfl rfl ?_
  by_cases hx3 : (((k : Nat) : Int) < (((spN l n) : Nat) : Int))
  · refine AW.rgs [.b true] [1, 8, 9, 10, 11] [] (P := ((((k : Nat) : Int) < (((spN l n) : Nat) : Int)))) (l' := [(1, iV z), (8, sV .i64 (spS l n) (spN l n)), (9, iV (((spN l n) : Nat) : Int)), (10, iV ↑k), (11, bV true)]) (g' := []) (nx' := 1) (by kernel_rfl) (by omega) ?_
    refine AW.seq ?_
    refine AW.cond_t (.tmp (Look.of rfl)) ?_
    refine AW.skip ?_
    refine AW.seq ?_
    refine AW.block ?_
    refine AW.rgs [.n k, .ds [iD (List.getD (spS l n) (k * 2) 0), iD (List.getD (spS l n) ((k * 2) + 1) 0)], .no, .no] [1, 6, 8, 9, 10] [1] (P := ((((k : Nat) : Int) : Int) = ((k : Nat) : Int)) ∧ (k < (spN l n)) ∧ (List.take 2 (List.drop (k * 2) (dI .i64 (spS l n))) = [iD (List.getD (spS l n) (k * 2) 0), iD (List.getD (spS l n) ((k * 2) + 1) 0)]) ∧ (([iD (List.getD (spS l n) (k * 2) 0), iD (List.getD (spS l n) ((k * 2) + 1) 0)] : List D).length = 2)) (l' := [(1, iV z), (6, rV 1 0), (8, sV .i64 (spS l n) (spN l n)), (9, iV (((spN l n) : Nat) : Int)), (10, iV ↑k)]) (g' := [(1, some (46, .ds [iD (List.getD (spS l n) (k * 2) 0), iD (List.getD (spS l n) ((k * 2) + 1) 0)]))]) (nx' := 2) (by kernel_rfl) ⟨rfl, (by omega), (dI_lds .i64 (spS l n) (k * 2) 2 (by first | omega | (simp only [bsD_len, dI_len, List.length_append, List.length_cons, List.length_nil, List.length_take, List.length_drop, List.length_replicate, List.length_set, List.length_map, List.length_reverse, Nat.mul_one] <;> omega) | rfl)), rfl⟩ ?_
    by_cases hx4 : ((List.getD (spS l n) (k * 2) 0) ≤ z)
    · by_cases hx5 : (z ≤ (List.getD (spS l n) ((k * 2) + 1) 0))
      · refine AW.rgs [.no, .no, .no, .b true, .no, .no, .no, .no, .b true, .no] [1, 8, 9, 10, 23] [] (P := (((List.getD (spS l n) (k * 2) 0) ≤ z)) ∧ ((z ≤ (List.getD (spS l n) ((k * 2) + 1) 0)))) (l' := [(1, iV z), (8, sV .i64 (spS l n) (spN l n)), (9, iV (((spN l n) : Nat) : Int)), (10, iV ↑k), (23, bV true)]) (g' := []) (nx' := 2) (by kernel_rfl) ⟨(by omega), (by omega)⟩ ?_
        refine AW.cond_t (.tmp (Look.of rfl)) ?_
        refine AW.rgs [.no] [4] [] (P := True) (l' := [(4, bV true)]) (g' := []) (nx' := 2) (by kernel_rfl) trivial ?_
        refine AW.ret ?_
        exact EndP.of (.inr rfl) [] (P := ((hsB (spS l n) z) = true)) (by kernel_rfl) (by first | exact hs_t (k := k) (sp_len hl) (by omega) (by omega) | exact hs_f (sp_len hl) (fun j hj => ha j (by omega)))
      · refine AW.rgs [.no, .no, .no, .b true, .no, .no, .no, .no, .b false, .no] [1, 8, 9, 10, 23] [] (P := (((List.getD (spS l n) (k * 2) 0) ≤ z)) ∧ (¬ (z ≤ (List.getD (spS l n) ((k * 2) + 1) 0)))) (l' := [(1, iV z), (8, sV .i64 (spS l n) (spN l n)), (9, iV (((spN l n) : Nat) : Int)), (10, iV ↑k), (23, bV false)]) (g' := []) (nx' := 2) (by kernel_rfl) ⟨(by omega), (by omega)⟩ ?_
        refine AW.cond_f (.tmp (Look.of rfl)) ?_
        refine AW.skip ?_
        refine AW.rg [.w, .no] [1, 8, 9, 10] [] (P := ((-9223372036854775808) ≤ (((k : Nat) : Int) + 1) ∧ (((k : Nat) : Int) + 1) ≤ 9223372036854775807)) (l' := [(1, iV z), (8, sV .i64 (spS l n) (spN l n)), (9, iV (((spN l n) : Nat) : Int)), (10, iV (↑k + 1))]) (g' := []) (nx' := 2) (by kernel_rfl) ⟨by omega, by omega⟩ ?_
        exact Rd.of ⟨((k + 1) : Nat), (show ((k + 1) ≤ spN l n) ∧ (∀ j, j < (k + 1) → ¬ (List.getD (spS l n) (j * 2) 0 ≤ z ∧ z ≤ List.getD (spS l n) (j * 2 + 1) 0)) from ⟨(by first | omega | assumption | simp), (fun j hj => (Nat.lt_succ_iff_lt_or_eq.1 hj).elim (ha j) (fun e9 => by subst e9; omega))⟩)⟩ [] (P := ((z : Int) = z) ∧ (((dI .i64 (spS l n)) : List D) = (dI .i64 (spS l n))) ∧ (((spN l n) : Nat) = (spN l n)) ∧ (((((spN l n) : Nat) : Int) : Int) = (((spN l n) : Nat) : Int)) ∧ (((((k + 1) : Nat) : Int) : Int) = (((k : Nat) : Int) + 1))) (by kernel_rfl) ⟨rfl, rfl, rfl, rfl, (by first | rfl | omega | assumption | (simp; done) | (simp; omega))⟩ (show spN l n - (k + 1) < spN l n - k from (by first | omega | (show _ < _; simp; omega)))
    · refine AW.rgs [.no, .no, .no, .b false, .no, .no] [1, 8, 9, 10, 23] [] (P := (¬ ((List.getD (spS l n) (k * 2) 0) ≤ z))) (l' := [(1, iV z), (8, sV .i64 (spS l n) (spN l n)), (9, iV (((spN l n) : Nat) : Int)), (10, iV ↑k), (23, bV false)]) (g' := []) (nx' := 2) (by kernel_rfl) (by omega) ?_
      refine AW.cond_f (.tmp (Look.of rfl)) ?_
      refine AW.skip ?_
      refine AW.rg [.w, .no] [1, 8, 9, 10] [] (P := ((-9223372036854775808) ≤ (((k : Nat) : Int) + 1) ∧ (((k : Nat) : Int) + 1) ≤ 9223372036854775807)) (l' := [(1, iV z), (8, sV .i64 (spS l n) (spN l n)), (9, iV (((spN l n) : Nat) : Int)), (10, iV (↑k + 1))]) (g' := []) (nx' := 2) (by kernel_rfl) ⟨by omega, by omega⟩ ?_
      exact Rd.of ⟨((k + 1) : Nat), (show ((k + 1) ≤ spN l n) ∧ (∀ j, j < (k + 1) → ¬ (List.getD (spS l n) (j * 2) 0 ≤ z ∧ z ≤ List.getD (spS l n) (j * 2 + 1) 0)) from ⟨(by first | omega | assumption | simp), (fun j hj => (Nat.lt_succ_iff_lt_or_eq.1 hj).elim (ha j) (fun e9 => by subst e9; omega))⟩)⟩ [] (P := ((z : Int) = z) ∧ (((dI .i64 (spS l n)) : List D) = (dI .i64 (spS l n))) ∧ (((spN l n) : Nat) = (spN l n)) ∧ (((((spN l n) : Nat) : Int) : Int) = (((spN l n) : Nat) : Int)) ∧ (((((k + 1) : Nat) : Int) : Int) = (((k : Nat) : Int) + 1))) (by kernel_rfl) ⟨rfl, rfl, rfl, rfl, (by first | rfl | omega | assumption | (simp; done) | (simp; omega))⟩ (show spN l n - (k + 1) < spN l n - k from (by first | omega | (show _ < _; simp; omega)))
  · refine AW.rgs [.b false] [1, 8, 9, 10, 11] [] (P := (¬ (((k : Nat) : Int) < (((spN l n) : Nat) : Int)))) (l' := [(1, iV z), (8, sV .i64 (spS l n) (spN l n)), (9, iV (((spN l n) : Nat) : Int)), (10, iV ↑k), (11, bV false)]) (g' := []) (nx' := 1) (by kernel_rfl) (by omega) ?_
    refine AW.seq ?_
    refine AW.cond_f (.tmp (Look.of rfl)) ?_
    refine AW.exit ?_
    refine AW.rgs [.no] [4] [] (P := True) (l' := [(4, bV false)]) (g' := []) (nx' := 1) (by kernel_rfl) trivial ?_
    refine AW.ret ?_
    exact EndP.of (.inr rfl) [] (P := ((hsB (spS l n) z) = false)) (by kernel_rfl) (by first | exact hs_t (k := k) (sp_len hl) (by omega) (by omega) | exact hs_f (sp_len hl) (fun j hj => ha j (by omega)))

set_option maxHeartbeats 4000000 in
set_option maxRecDepth 100000 in
theorem U_rHas (l : List Int) (n : Nat) (z : Int) (hl : List.length l = n * 2) (hb : n ≤ 9223372036854775807) : Fun 17 [.agg [.d (D.sl (dI .i64 l) n)], iE z] (toG []) 0 (.e (.c (.d (D.lit (.bool (hsB (spS l n) z)))))) (toG []) 0 := by
  refine Fun.mk (n := 25) Try.func17 rfl rfl (Nat.le_of_ble_eq_true rfl) ?_
  intro cx hcx
  refine AW.rgs [.no, .no] [1, 2] [0] (P := True) (l' := [(1, iV z), (2, rV 0 0)]) (g' := [(0, some (24, .ds [D.sl (dI .i64 l) n]))]) (nx' := 1) (by kernel_rfl) trivial ?_
  refine AW.seq ?_
  have hx1 : ((List.length (spS l n)) = ((spN l n) * 2)) := sp_len ((by omega))
  have hx2 : (((spN l n) ≤ 64) ∧ ((spN l n) ≤ n)) := sp_le
  refine AW.rgs [.no, .call [] (sV .i64 (spS l n) (spN l n)) [] 0 [] none, .no, .no] [1, 8, 9, 10] [] (P := (_)) (l' := [(1, iV z), (8, sV .i64 (spS l n) (spN l n)), (9, iV (((spN l n) : Nat) : Int)), (10, iV 0)]) (g' := []) (nx' := 1) (by kernel_rfl) (U_rspans l n (by omega) (by omega)) ?_
  refine AW.block ?_
  refine AW.loopE 0 hcx (fun (x : {x : Nat // match x with | k => (k ≤ spN l n) ∧ (∀ j, j < k → ¬ (List.getD (spS l n) (j * 2) 0 ≤ z ∧ z ≤ List.getD (spS l n) (j * 2 + 1) 0))}) => match x with | ⟨k, _⟩ => (⟨[(1, iV z), (8, sV .i64 (spS l n) (spN l n)), (9, iV (((spN l n) : Nat) : Int)), (10, iV ((k : Nat) : Int))], [], 1⟩ : ES)) (fun (x : {x : Nat // match x with | k => (k ≤ spN l n) ∧ (∀ j, j < k → ¬ (List.getD (spS l n) (j * 2) 0 ≤ z ∧ z ≤ List.getD (spS l n) (j * 2 + 1) 0))}) => match x with | ⟨k, _⟩ => spN l n - k) ⟨(0 : Nat), (show ((0 : Nat) ≤ spN l n) ∧ (∀ j, j < (0 : Nat) → ¬ (List.getD (spS l n) (j * 2) 0 ≤ z ∧ z ≤ List.getD (spS l n) (j * 2 + 1) 0)) from ⟨(by first | omega | assumption | simp), (fun j hj => absurd hj (Nat.not_lt_zero j))⟩)⟩ [] (P := ((z : Int) = z) ∧ (((dI .i64 (spS l n)) : List D) = (dI .i64 (spS l n))) ∧ (((spN l n) : Nat) = (spN l n)) ∧ (((((spN l n) : Nat) : Int) : Int) = (((spN l n) : Nat) : Int)) ∧ ((0 : Int) = 0)) (by kernel_rfl) ⟨rfl, rfl, rfl, rfl, rfl⟩ ?_
  rintro ⟨k, hinv0⟩
  obtain ⟨hk, ha⟩ : (k ≤ spN l n) ∧ (∀ j, j < k → ¬ (List.getD (spS l n) (j * 2) 0 ≤ z ∧ z ≤ List.getD (spS l n) (j * 2 + 1) 0)) := hinv0
  refine AW.es (l := [(1, iV z), (8, sV .i64 (spS l n) (spN l n)), (9, iV (((spN l n) : Nat) : Int)), (10, iV ((k : Nat) : Int))]) (g := []) (nx := 1) rfl rfl rfl ?_
  by_cases hx3 : (((k : Nat) : Int) < (((spN l n) : Nat) : Int))
  · refine AW.rgs [.b true] [1, 8, 9, 10, 11] [] (P := ((((k : Nat) : Int) < (((spN l n) : Nat) : Int)))) (l' := [(1, iV z), (8, sV .i64 (spS l n) (spN l n)), (9, iV (((spN l n) : Nat) : Int)), (10, iV ↑k), (11, bV true)]) (g' := []) (nx' := 1) (by kernel_rfl) (by omega) ?_
    refine AW.seq ?_
    refine AW.cond_t (.tmp (Look.of rfl)) ?_
    refine AW.skip ?_
    refine AW.seq ?_
    refine AW.block ?_
    refine AW.rgs [.n k, .ds [iD (List.getD (spS l n) (k * 2) 0), iD (List.getD (spS l n) ((k * 2) + 1) 0)], .no, .no] [1, 6, 8, 9, 10] [1] (P := ((((k : Nat) : Int) : Int) = ((k : Nat) : Int)) ∧ (k < (spN l n)) ∧ (List.take 2 (List.drop (k * 2) (dI .i64 (spS l n))) = [iD (List.getD (spS l n) (k * 2) 0), iD (List.getD (spS l n) ((k * 2) + 1) 0)]) ∧ (([iD (List.getD (spS l n) (k * 2) 0), iD (List.getD (spS l n) ((k * 2) + 1) 0)] : List D).length = 2)) (l' := [(1, iV z), (6, rV 1 0), (8, sV .i64 (spS l n) (spN l n)), (9, iV (((spN l n) : Nat) : Int)), (10, iV ↑k)]) (g' := [(1, some (46, .ds [iD (List.getD (spS l n) (k * 2) 0), iD (List.getD (spS l n) ((k * 2) + 1) 0)]))]) (nx' := 2) (by kernel_rfl) ⟨rfl, (by omega), (dI_lds .i64 (spS l n) (k * 2) 2 (by first | omega | (simp only [bsD_len, dI_len, List.length_append, List.length_cons, List.length_nil, List.length_take, List.length_drop, List.length_replicate, List.length_set, List.length_map, List.length_reverse, Nat.mul_one] <;> omega) | rfl)), rfl⟩ ?_
    by_cases hx4 : ((List.getD (spS l n) (k * 2) 0) ≤ z)
    · by_cases hx5 : (z ≤ (List.getD (spS l n) ((k * 2) + 1) 0))
      · refine AW.rgs [.no, .no, .no, .b true, .no, .no, .no, .no, .b true, .no] [1, 8, 9, 10, 23] [] (P := (((List.getD (spS l n) (k * 2) 0) ≤ z)) ∧ ((z ≤ (List.getD (spS l n) ((k * 2) + 1) 0)))) (l' := [(1, iV z), (8, sV .i64 (spS l n) (spN l n)), (9, iV (((spN l n) : Nat) : Int)), (10, iV ↑k), (23, bV true)]) (g' := []) (nx' := 2) (by kernel_rfl) ⟨(by omega), (by omega)⟩ ?_
        refine AW.cond_t (.tmp (Look.of rfl)) ?_
        refine AW.rgs [.no] [4] [] (P := True) (l' := [(4, bV true)]) (g' := []) (nx' := 2) (by kernel_rfl) trivial ?_
        refine AW.ret ?_
        exact EndP.of (.inr rfl) [] (P := ((hsB (spS l n) z) = true)) (by kernel_rfl) (by first | exact hs_t (k := k) (sp_len hl) (by omega) (by omega) | exact hs_f (sp_len hl) (fun j hj => ha j (by omega)))
      · refine AW.rgs [.no, .no, .no, .b true, .no, .no, .no, .no, .b false, .no] [1, 8, 9, 10, 23] [] (P := (((List.getD (spS l n) (k * 2) 0) ≤ z)) ∧ (¬ (z ≤ (List.getD (spS l n) ((k * 2) + 1) 0)))) (l' := [(1, iV z), (8, sV .i64 (spS l n) (spN l n)), (9, iV (((spN l n) : Nat) : Int)), (10, iV ↑k), (23, bV false)]) (g' := []) (nx' := 2) (by kernel_rfl) ⟨(by omega), (by omega)⟩ ?_
        refine AW.cond_f (.tmp (Look.of rfl)) ?_
        refine AW.skip ?_
        refine AW.rg [.w, .no] [1, 8, 9, 10] [] (P := ((-9223372036854775808) ≤ (((k : Nat) : Int) + 1) ∧ (((k : Nat) : Int) + 1) ≤ 9223372036854775807)) (l' := [(1, iV z), (8, sV .i64 (spS l n) (spN l n)), (9, iV (((spN l n) : Nat) : Int)), (10, iV (↑k + 1))]) (g' := []) (nx' := 2) (by kernel_rfl) ⟨by omega, by omega⟩ ?_
        exact Rd.of ⟨((k + 1) : Nat), (show ((k + 1) ≤ spN l n) ∧ (∀ j, j < (k + 1) → ¬ (List.getD (spS l n) (j * 2) 0 ≤ z ∧ z ≤ List.getD (spS l n) (j * 2 + 1) 0)) from ⟨(by first | omega | assumption | simp), (fun j hj => (Nat.lt_succ_iff_lt_or_eq.1 hj).elim (ha j) (fun e9 => by subst e9; omega))⟩)⟩ [] (P := ((z : Int) = z) ∧ (((dI .i64 (spS l n)) : List D) = (dI .i64 (spS l n))) ∧ (((spN l n) : Nat) = (spN l n)) ∧ (((((spN l n) : Nat) : Int) : Int) = (((spN l n) : Nat) : Int)) ∧ (((((k + 1) : Nat) : Int) : Int) = (((k : Nat) : Int) + 1))) (by kernel_rfl) ⟨rfl, rfl, rfl, rfl, (by first | rfl | omega | assumption | (simp; done) | (simp; omega))⟩ (show spN l n - (k + 1) < spN l n - k from (by first | omega | (show _ < _; simp; omega)))
    · refine AW.rgs [.no, .no, .no, .b false, .no, .no] [1, 8, 9, 10, 23] [] (P := (¬ ((List.getD (spS l n) (k * 2) 0) ≤ z))) (l' := [(1, iV z), (8, sV .i64 (spS l n) (spN l n)), (9, iV (((spN l n) : Nat) : Int)), (10, iV ↑k), (23, bV false)]) (g' := []) (nx' := 2) (by kernel_rfl) (by omega) ?_
      refine AW.cond_f (.tmp (Look.of rfl)) ?_
      refine AW.skip ?_
      refine AW.rg [.w, .no] [1, 8, 9, 10] [] (P := ((-9223372036854775808) ≤ (((k : Nat) : Int) + 1) ∧ (((k : Nat) : Int) + 1) ≤ 9223372036854775807)) (l' := [(1, iV z), (8, sV .i64 (spS l n) (spN l n)), (9, iV (((spN l n) : Nat) : Int)), (10, iV (↑k + 1))]) (g' := []) (nx' := 2) (by kernel_rfl) ⟨by omega, by omega⟩ ?_
      exact Rd.of ⟨((k + 1) : Nat), (show ((k + 1) ≤ spN l n) ∧ (∀ j, j < (k + 1) → ¬ (List.getD (spS l n) (j * 2) 0 ≤ z ∧ z ≤ List.getD (spS l n) (j * 2 + 1) 0)) from ⟨(by first | omega | assumption | simp), (fun j hj => (Nat.lt_succ_iff_lt_or_eq.1 hj).elim (ha j) (fun e9 => by subst e9; omega))⟩)⟩ [] (P := ((z : Int) = z) ∧ (((dI .i64 (spS l n)) : List D) = (dI .i64 (spS l n))) ∧ (((spN l n) : Nat) = (spN l n)) ∧ (((((spN l n) : Nat) : Int) : Int) = (((spN l n) : Nat) : Int)) ∧ (((((k + 1) : Nat) : Int) : Int) = (((k : Nat) : Int) + 1))) (by kernel_rfl) ⟨rfl, rfl, rfl, rfl, (by first | rfl | omega | assumption | (simp; done) | (simp; omega))⟩ (show spN l n - (k + 1) < spN l n - k from (by first | omega | (show _ < _; simp; omega)))
  · refine AW.rgs [.b false] [1, 8, 9, 10, 11] [] (P := (¬ (((k : Nat) : Int) < (((spN l n) : Nat) : Int)))) (l' := [(1, iV z), (8, sV .i64 (spS l n) (spN l n)), (9, iV (((spN l n) : Nat) : Int)), (10, iV ↑k), (11, bV false)]) (g' := []) (nx' := 1) (by kernel_rfl) (by omega) ?_
    refine AW.seq ?_
    refine AW.cond_f (.tmp (Look.of rfl)) ?_
    refine AW.exit ?_
    refine AW.rgs [.no] [4] [] (P := True) (l' := [(4, bV false)]) (g' := []) (nx' := 1) (by kernel_rfl) trivial ?_
    refine AW.ret ?_
    exact EndP.of (.inr rfl) [] (P := ((hsB (spS l n) z) = false)) (by kernel_rfl) (by first | exact hs_t (k := k) (sp_len hl) (by omega) (by omega) | exact hs_f (sp_len hl) (fun j hj => ha j (by omega)))

end Go.Proofs.Ythnililaajkppaa
