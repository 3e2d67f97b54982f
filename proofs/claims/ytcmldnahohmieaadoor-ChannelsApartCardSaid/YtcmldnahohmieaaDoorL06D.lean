/- Sorted and common positions. No statement is proved here. -/
import Derived.Test.YtcmldnahohmieaaDoorL06B
namespace Go.Proofs.YtcmldnahohmieaaDoor
open Go.ChangeShapes Go.WideShapes Go.ChangeAt Go.RowKit
set_option linter.unusedVariables false
set_option linter.unusedSimpArgs false

set_option maxHeartbeats 4000000 in
set_option maxRecDepth 100000 in
theorem C_Clone_i64_1 (l : List Int) (n : Nat) (hn : List.length l = n) (hb : n ≤ 1000000) (h1 : 1 ≤ n) : Fun 53 [.c (.d (D.sl (dI .i64 l) n))] (toG []) 0 (oV 0 0 n 1) (toG [(0, some (3, .ds (dI .i64 l)))]) 1 := by
  refine Fun.mk (n := 8) Tryd.func53 rfl rfl (Nat.le_of_ble_eq_true rfl) ?_
  intro cx hcx
  refine AW.rgs [.no] [0] [] (P := True) (l' := [(0, sV .i64 l n)]) (g' := []) (nx' := 0) (by kernel_rfl) trivial ?_
  refine AW.seq ?_
  refine AW.rgs [.no, .no] [0, 4] [] (P := (1 ≤ n)) (l' := [(0, sV .i64 l n), (4, bV false)]) (g' := []) (nx' := 0) (by kernel_rfl) (by omega) ?_
  refine AW.cond_f (.tmp (Look.of rfl)) ?_
  refine AW.skip ?_
  refine AW.rgs [.no, .no, .ap none (0 + n) (dI .i64 l), .no] [2] [1] (P := ((dI .i64 l).length = n * 1) ∧ ((([] : List D) : List D).length = 0 * 1) ∧ ((0 + n) * 8 ≤ 140737488355328) ∧ ((0 : Nat) + n = (0 + n)) ∧ ((([] : List D) : List D) ++ (dI .i64 l) = (dI .i64 l))) (l' := [(2, oV 1 0 (0 + n) 1)]) (g' := [(1, some (3, .ds (dI .i64 l)))]) (nx' := 2) (by kernel_rfl) ⟨(by first | omega | (simp only [bsD_len, stD_len, stL_len, dI_len, List.length_append, List.length_cons, List.length_nil, List.length_take, List.length_drop, List.length_replicate, List.length_set, List.length_map, List.length_reverse, Nat.mul_one] <;> omega) | rfl), (by first | omega | (simp only [bsD_len, stD_len, stL_len, dI_len, List.length_append, List.length_cons, List.length_nil, List.length_take, List.length_drop, List.length_replicate, List.length_set, List.length_map, List.length_reverse, Nat.mul_one] <;> omega) | rfl), (by omega), (by omega), rfl⟩ ?_
  refine AW.ret ?_
  exact EndP.of (.inr rfl) [(0, 1)] (P := ((0 : Nat) = 0) ∧ ((n : Nat) = (0 + n)) ∧ (((dI .i64 l) : List D) = (dI .i64 l))) (by kernel_rfl) ⟨rfl, (by first | omega | rfl | assumption | (simp; done) | (simp; omega)), rfl⟩

set_option maxHeartbeats 4000000 in
set_option maxRecDepth 100000 in
theorem C_Clone_i64_2   : Fun 53 [.c (.d (D.lit (.slice none 0 0)))] (toG []) 0 (oV 0 0 0 1) (toG [(0, some (3, .ds ([] : List D)))]) 1 := by
  refine Fun.mk (n := 8) Tryd.func53 rfl rfl (Nat.le_of_ble_eq_true rfl) ?_
  intro cx hcx
  refine AW.rgs [.no] [0] [] (P := True) (l' := [(0, nV)]) (g' := []) (nx' := 0) (by kernel_rfl) trivial ?_
  refine AW.seq ?_
  refine AW.rgs [.no, .no] [0, 4] [] (P := True) (l' := [(0, nV), (4, bV true)]) (g' := []) (nx' := 0) (by kernel_rfl) trivial ?_
  refine AW.cond_t (.tmp (Look.of rfl)) ?_
  refine AW.rgs [.no] [2] [] (P := True) (l' := [(2, nV)]) (g' := []) (nx' := 0) (by kernel_rfl) trivial ?_
  refine AW.adoptS 2 1 3 rfl ?_
  refine AW.ret ?_
  exact EndP.of (.inr rfl) [] (P := ((0 : Nat) = 0) ∧ ((0 : Nat) = 0) ∧ ((([] : List D) : List D) = ([] : List D))) (by kernel_rfl) ⟨rfl, rfl, rfl⟩

set_option maxHeartbeats 4000000 in
set_option maxRecDepth 100000 in
theorem C_Clone_i64_3 (a : Addr) (cap : Nat) (hm : cap ≤ maxLen) : Fun 53 [.c (.d (D.lit (.slice (some a) 0 cap)))] (toG []) 0 (oV 0 0 0 1) (toG [(0, some (3, .ds ([] : List D)))]) 1 := by
  refine Fun.mk (n := 8) Tryd.func53 rfl rfl (Nat.le_of_ble_eq_true rfl) ?_
  intro cx hcx
  refine AW.rgs [.no] [0] [] (P := True) (l' := [(0, .e (.c (.d (D.lit (.slice (some a) 0 cap)))))]) (g' := []) (nx' := 0) (by kernel_rfl) trivial ?_
  refine AW.seq ?_
  refine AW.rgs [.no, .no] [0, 4] [] (P := True) (l' := [(0, .e (.c (.d (D.lit (.slice (some a) 0 cap))))), (4, bV false)]) (g' := []) (nx' := 0) (by kernel_rfl) trivial ?_
  refine AW.cond_f (.tmp (Look.of rfl)) ?_
  refine AW.skip ?_
  refine AW.relit 0 hm (fun h9 => by cases h9) rfl ?_
  refine AW.rgs [.no, .no, .ap none 0 ([] : List D), .no] [2] [1] (P := (([] : List D).length = 0 * 1) ∧ ((([] : List D) : List D).length = 0 * 1) ∧ ((0 + 0) * 8 ≤ 140737488355328) ∧ ((0 : Nat) + 0 = 0) ∧ ((([] : List D) : List D) ++ ([] : List D) = ([] : List D))) (l' := [(2, oV 1 0 0 1)]) (g' := [(1, some (3, .ds ([] : List D)))]) (nx' := 2) (by kernel_rfl) ⟨(by first | omega | (simp only [bsD_len, stD_len, stL_len, dI_len, List.length_append, List.length_cons, List.length_nil, List.length_take, List.length_drop, List.length_replicate, List.length_set, List.length_map, List.length_reverse, Nat.mul_one] <;> omega) | rfl), (by first | omega | (simp only [bsD_len, stD_len, stL_len, dI_len, List.length_append, List.length_cons, List.length_nil, List.length_take, List.length_drop, List.length_replicate, List.length_set, List.length_map, List.length_reverse, Nat.mul_one] <;> omega) | rfl), (by omega), (by omega), rfl⟩ ?_
  refine AW.ret ?_
  exact EndP.of (.inr rfl) [(0, 1)] (P := ((0 : Nat) = 0) ∧ ((0 : Nat) = 0) ∧ ((([] : List D) : List D) = ([] : List D))) (by kernel_rfl) ⟨rfl, rfl, rfl⟩

theorem C_Clone_i64 (l : List Int) (n : Nat) (hn : List.length l = n) (hb : n ≤ 1000000) : Fun 53 [.c (.d (D.sl (dI .i64 l) n))] (toG []) 0 (oV 0 0 n 1) (toG [(0, some (3, .ds (dI .i64 l)))]) 1 := by
  by_cases h1 : 1 ≤ n
  · exact C_Clone_i64_1 l n hn hb h1
  · obtain rfl : n = 0 := by omega
    obtain rfl : l = [] := List.eq_nil_of_length_eq_zero hn
    exact Fun.nil0 C_Clone_i64_2 (fun a cap hm => C_Clone_i64_3 a cap hm)

set_option maxHeartbeats 4000000 in
set_option maxRecDepth 100000 in
theorem Z_Len64   : Fun 83 [.c (.d (D.lit (.int .u64 0)))] (toG []) 0 (iV 0) (toG []) 0 := by
  refine Fun.mk (n := 25) Tryd.func83 rfl rfl (Nat.le_of_ble_eq_true rfl) ?_
  intro cx hcx
  refine AW.rgs [.no] [0, 2] [] (P := True) (l' := [(0, .e (.c (.d (D.lit (.int .u64 0))))), (2, iV 0)]) (g' := []) (nx' := 0) (by kernel_rfl) trivial ?_
  refine AW.seq ?_
  refine AW.rgs [.no, .b false] [0, 2, 4] [] (P := (¬ ((4294967296 : Int) ≤ 0))) (l' := [(0, .e (.c (.d (D.lit (.int .u64 0))))), (2, iV 0), (4, bV false)]) (g' := []) (nx' := 0) (by kernel_rfl) (by omega) ?_
  refine AW.cond_f (.tmp (Look.of rfl)) ?_
  refine AW.skip ?_
  refine AW.seq ?_
  refine AW.rgs [.no, .b false] [0, 2, 8] [] (P := (¬ ((65536 : Int) ≤ 0))) (l' := [(0, .e (.c (.d (D.lit (.int .u64 0))))), (2, iV 0), (8, bV false)]) (g' := []) (nx' := 0) (by kernel_rfl) (by omega) ?_
  refine AW.cond_f (.tmp (Look.of rfl)) ?_
  refine AW.skip ?_
  refine AW.seq ?_
  refine AW.rgs [.no, .b false] [0, 2, 14] [] (P := (¬ ((256 : Int) ≤ 0))) (l' := [(0, .e (.c (.d (D.lit (.int .u64 0))))), (2, iV 0), (14, bV false)]) (g' := []) (nx' := 0) (by kernel_rfl) (by omega) ?_
  refine AW.cond_f (.tmp (Look.of rfl)) ?_
  refine AW.skip ?_
  refine AW.rgs [.no, .no, .w, .i 0, .w, .w, .no] [2] [] (P := (0 ≤ (0 : Int) ∧ (0 : Int) ≤ 255) ∧ (strAt (ByteArray.mk #[0, 1, 2, 2, 3, 3, 3, 3, 4, 4, 4, 4, 4, 4, 4, 4, 5, 5, 5, 5, 5, 5, 5, 5, 5, 5, 5, 5, 5, 5, 5, 5, 6, 6, 6, 6, 6, 6, 6, 6, 6, 6, 6, 6, 6, 6, 6, 6, 6, 6, 6, 6, 6, 6, 6, 6, 6, 6, 6, 6, 6, 6, 6, 6, 7, 7, 7, 7, 7, 7, 7, 7, 7, 7, 7, 7, 7, 7, 7, 7, 7, 7, 7, 7, 7, 7, 7, 7, 7, 7, 7, 7, 7, 7, 7, 7, 7, 7, 7, 7, 7, 7, 7, 7, 7, 7, 7, 7, 7, 7, 7, 7, 7, 7, 7, 7, 7, 7, 7, 7, 7, 7, 7, 7, 7, 7, 7, 7, 8, 8, 8, 8, 8, 8, 8, 8, 8, 8, 8, 8, 8, 8, 8, 8, 8, 8, 8, 8, 8, 8, 8, 8, 8, 8, 8, 8, 8, 8, 8, 8, 8, 8, 8, 8, 8, 8, 8, 8, 8, 8, 8, 8, 8, 8, 8, 8, 8, 8, 8, 8, 8, 8, 8, 8, 8, 8, 8, 8, 8, 8, 8, 8, 8, 8, 8, 8, 8, 8, 8, 8, 8, 8, 8, 8, 8, 8, 8, 8, 8, 8, 8, 8, 8, 8, 8, 8, 8, 8, 8, 8, 8, 8, 8, 8, 8, 8, 8, 8, 8, 8, 8, 8, 8, 8, 8, 8, 8, 8, 8, 8, 8, 8, 8, 8, 8, 8, 8, 8, 8, 8, 8, 8, 8, 8, 8, 8]) (0 : Int) = some (0 : Int)) ∧ ((-9223372036854775808) ≤ (0 : Int) ∧ (0 : Int) ≤ 9223372036854775807) ∧ ((-9223372036854775808) ≤ (0 : Int) ∧ (0 : Int) ≤ 9223372036854775807)) (l' := [(2, iV 0)]) (g' := []) (nx' := 0) (by kernel_rfl) ⟨⟨by omega, by omega⟩, (by rfl), ⟨by omega, by omega⟩, ⟨by omega, by omega⟩⟩ ?_
  refine AW.ret ?_
  exact EndP.of (.inr rfl) [] (P := ((0 : Int) = 0)) (by kernel_rfl) rfl

set_option maxHeartbeats 4000000 in
set_option maxRecDepth 100000 in
theorem Z_Len   : Fun 66 [.c (.d (D.lit (.int .u64 0)))] (toG []) 0 (iV 0) (toG []) 0 := by
  refine Fun.mk (n := 8) Tryd.func66 rfl rfl (Nat.le_of_ble_eq_true rfl) ?_
  intro cx hcx
  refine AW.rgs [.no] [0] [] (P := True) (l' := [(0, .e (.c (.d (D.lit (.int .u64 0)))))]) (g' := []) (nx' := 0) (by kernel_rfl) trivial ?_
  refine AW.seq ?_
  refine AW.cond_f (.lit rfl) ?_
  refine AW.skip ?_
  refine AW.rgs [.no, .call [] (iV 0) [] 0 [] none, .no] [2] [] (P := (_)) (l' := [(2, iV 0)]) (g' := []) (nx' := 0) (by kernel_rfl) (Z_Len64) ?_
  refine AW.ret ?_
  exact EndP.of (.inr rfl) [] (P := ((0 : Int) = 0)) (by kernel_rfl) rfl

set_option maxHeartbeats 4000000 in
set_option maxRecDepth 100000 in
theorem Z_ins (l : List Int) (h0 : List.length l = 0) : Fun 73 [.c (.own 0 0 0 1 true), iE 0, iE 0] (toG [(0, some (3, .ds (dI .i64 l)))]) 1 (.tup []) (toG [(0, some (3, .ds (dI .i64 l)))]) 1 := by
  refine Fun.mk (n := 49) Tryd.func73 rfl rfl (Nat.le_of_ble_eq_true rfl) ?_
  intro cx hcx
  refine AW.rgs [.no, .w, .no] [0, 1, 2, 6] [0] (P := ((-9223372036854775808) ≤ (1 : Int) ∧ (1 : Int) ≤ 9223372036854775807)) (l' := [(0, oV 0 0 0 1), (1, iV 0), (2, iV 0), (6, iV 1)]) (g' := [(0, some (3, .ds (dI .i64 l)))]) (nx' := 1) (by kernel_rfl) ⟨by omega, by omega⟩ ?_
  refine AW.block ?_
  refine AW.rounds 1 ?_
  refine AWr.s ?_
  refine AW.seq ?_
  refine AW.rgs [.no, .no, .b false] [0, 1, 2, 6, 12] [0] (P := (¬ ((1 : Int) < 0))) (l' := [(0, oV 0 0 0 1), (1, iV 0), (2, iV 0), (6, iV 1), (12, bV false)]) (g' := [(0, some (3, .ds (dI .i64 l)))]) (nx' := 1) (by kernel_rfl) (by omega) ?_
  refine AW.cond_f (.tmp (Look.of rfl)) ?_
  refine AW.exit ?_
  exact EndP.of (.inl rfl) [] (P := (((dI .i64 l) : List D) = (dI .i64 l))) (by kernel_rfl) rfl

set_option maxHeartbeats 4000000 in
set_option maxRecDepth 100000 in
theorem Z_pdq (l : List Int) (h0 : List.length l = 0) : Fun 65 [.c (.own 0 0 0 1 true), iE 0, iE 0, iE 0] (toG [(0, some (3, .ds (dI .i64 l)))]) 1 (.tup []) (toG [(0, some (3, .ds (dI .i64 l)))]) 1 := by
  refine Fun.mk (n := 134) Tryd.func65 rfl rfl (Nat.le_of_ble_eq_true rfl) ?_
  intro cx hcx
  refine AW.rgs [.no] [0, 1, 2, 3, 8] [0] (P := True) (l' := [(0, oV 0 0 0 1), (1, iV 0), (2, iV 0), (3, iV 0), (8, bV true)]) (g' := [(0, some (3, .ds (dI .i64 l)))]) (nx' := 1) (by kernel_rfl) trivial ?_
  refine AW.rgs [.no] [0, 1, 2, 3, 8, 9] [0] (P := True) (l' := [(0, oV 0 0 0 1), (1, iV 0), (2, iV 0), (3, iV 0), (8, bV true), (9, bV true)]) (g' := [(0, some (3, .ds (dI .i64 l)))]) (nx' := 1) (by kernel_rfl) trivial ?_
  refine AW.block ?_
  refine AW.rounds 1 ?_
  refine AWr.s ?_
  refine AW.block ?_
  refine AW.rgs [.no, .no, .w, .no] [0, 1, 2, 3, 8, 9, 10] [0] (P := ((-9223372036854775808) ≤ (0 : Int) ∧ (0 : Int) ≤ 9223372036854775807)) (l' := [(0, oV 0 0 0 1), (1, iV 0), (2, iV 0), (3, iV 0), (8, bV true), (9, bV true), (10, iV 0)]) (g' := [(0, some (3, .ds (dI .i64 l)))]) (nx' := 1) (by kernel_rfl) ⟨by omega, by omega⟩ ?_
  refine AW.seq ?_
  refine AW.rgs [.no, .b true] [0, 1, 2, 3, 8, 9, 10, 23] [0] (P := (((0 : Int) ≤ 12))) (l' := [(0, oV 0 0 0 1), (1, iV 0), (2, iV 0), (3, iV 0), (8, bV true), (9, bV true), (10, iV 0), (23, bV true)]) (g' := [(0, some (3, .ds (dI .i64 l)))]) (nx' := 1) (by kernel_rfl) (by omega) ?_
  refine AW.cond_t (.tmp (Look.of rfl)) ?_
  refine AW.rgs [.no, .no, .no, .call [0] (.tup []) [(0, some (3, .ds (dI .i64 l)))] 1 [] none] [] [0] (P := (_)) (l' := []) (g' := [(0, some (3, .ds (dI .i64 l)))]) (nx' := 1) (by kernel_rfl) (Z_ins l (by omega)) ?_
  refine AW.ret ?_
  exact EndP.of (.inr rfl) [] (P := (((dI .i64 l) : List D) = (dI .i64 l))) (by kernel_rfl) rfl

set_option maxHeartbeats 4000000 in
set_option maxRecDepth 100000 in
theorem Z_Sort (l : List Int) (n : Nat) (hn : List.length l = n) (h0 : n = 0) : Fun 54 [.c (.own 0 0 n 1 true)] (toG [(0, some (3, .ds (dI .i64 l)))]) 1 (.tup []) (toG [(0, some (3, .ds (dI .i64 l)))]) 1 := by
  refine Fun.mk (n := 11) Tryd.func54 rfl rfl (Nat.le_of_ble_eq_true rfl) ?_
  intro cx hcx
  obtain rfl : n = 0 := by omega
  refine AW.rgs [.no, .no, .no] [0, 2] [0] (P := True) (l' := [(0, oV 0 0 0 1), (2, iV 0)]) (g' := [(0, some (3, .ds (dI .i64 l)))]) (nx' := 1) (by kernel_rfl) trivial ?_
  refine AW.rg [.no, .no, .no, .w, .call [] (iV 0) [] 0 [] none, .call [0] (.tup []) [(0, some (3, .ds (dI .i64 l)))] 1 [] none] [] [0] (P := (0 ≤ (0 : Int) ∧ (0 : Int) ≤ 18446744073709551615) ∧ (_) ∧ (_)) (l' := []) (g' := [(0, some (3, .ds (dI .i64 l)))]) (nx' := 1) (by kernel_rfl) ⟨⟨by omega, by omega⟩, (Z_Len), (Z_pdq l (by omega))⟩ ?_
  exact EndP.of (.inl rfl) [] (P := (((dI .i64 l) : List D) = (dI .i64 l))) (by kernel_rfl) rfl

set_option maxHeartbeats 4000000 in
set_option maxRecDepth 100000 in
theorem V_Sorted (l : List Int) (n : Nat) (hn : List.length l = n) (h2 : n ≤ 1000000) : Fun 30 [.c (.d (D.sl (dI .i64 l) n))] (toG []) 0 (sV .i64 (stL l) n) (toG []) 0 := by
  refine Fun.mk (n := 9) Tryd.func30 rfl rfl (Nat.le_of_ble_eq_true rfl) ?_
  intro cx hcx
  refine AW.rgs [.no] [0] [] (P := True) (l' := [(0, sV .i64 l n)]) (g' := []) (nx' := 0) (by kernel_rfl) trivial ?_
  refine AW.rgs [.no, .call [] (oV 0 0 n 1) [(0, some (3, .ds (dI .i64 l)))] 1 [] none, .no] [3] [0] (P := (_)) (l' := [(3, oV 0 0 n 1)]) (g' := [(0, some (3, .ds (dI .i64 l)))]) (nx' := 1) (by kernel_rfl) (C_Clone_i64 l n (by omega) (by omega)) ?_
  by_cases hx1 : ((1 : Nat) ≤ n)
  · refine AW.rgs [.no, .call [0] (.tup []) [(0, some (3, .ds (dI .i64 (stL l))))] 1 [] none] [3] [0] (P := (_)) (l' := [(3, oV 0 0 n 1)]) (g' := [(0, some (3, .ds (dI .i64 (stL l))))]) (nx' := 1) (by kernel_rfl) (S_Sort1 l n (by omega) (by omega) (by omega)) ?_
    refine AW.rgs [.no, .no] [2] [0] (P := True) (l' := [(2, oV 0 0 n 1)]) (g' := [(0, some (3, .ds (dI .i64 (stL l))))]) (nx' := 1) (by kernel_rfl) trivial ?_
    refine AW.freeze 0 (l' := [(2, sV .i64 (stL l) n)]) (g' := []) rfl (FzS.cons rfl (.e (.c (@FzC.own 0 ((dI .i64 (stL l)) : List D) 0 n 1 true ((dI .i64 (stL l)) : List D) (by rw [List.drop_zero, Nat.mul_one, List.take_of_length_le (by first | omega | (simp only [bsD_len, stD_len, stL_len, dI_len, List.length_append, List.length_cons, List.length_nil, List.length_take, List.length_drop, List.length_replicate, List.length_set, List.length_map, List.length_reverse, Nat.mul_one] <;> omega))]) (by first | omega | (simp only [bsD_len, stD_len, stL_len, dI_len, List.length_append, List.length_cons, List.length_nil, List.length_take, List.length_drop, List.length_replicate, List.length_set, List.length_map, List.length_reverse, Nat.mul_one] <;> omega) | rfl)))) FzS.nil) FzG.nil ?_
    refine AW.ret ?_
    exact EndP.of (.inr rfl) [] (P := (((dI .i64 (stL l)) : List D) = (dI .i64 (stL l))) ∧ ((n : Nat) = n)) (by kernel_rfl) ⟨rfl, rfl⟩
  · refine AW.rgs [.no, .call [0] (.tup []) [(0, some (3, .ds (dI .i64 l)))] 1 [] none] [3] [0] (P := (_)) (l' := [(3, oV 0 0 n 1)]) (g' := [(0, some (3, .ds (dI .i64 l)))]) (nx' := 1) (by kernel_rfl) (Z_Sort l n (by omega) (by omega)) ?_
    refine AW.rgs [.no, .no] [2] [0] (P := True) (l' := [(2, oV 0 0 n 1)]) (g' := [(0, some (3, .ds (dI .i64 l)))]) (nx' := 1) (by kernel_rfl) trivial ?_
    refine AW.freeze 0 (l' := [(2, sV .i64 l n)]) (g' := []) rfl (FzS.cons rfl (.e (.c (@FzC.own 0 ((dI .i64 l) : List D) 0 n 1 true ((dI .i64 l) : List D) (by rw [List.drop_zero, Nat.mul_one, List.take_of_length_le (by first | omega | (simp only [bsD_len, stD_len, stL_len, dI_len, List.length_append, List.length_cons, List.length_nil, List.length_take, List.length_drop, List.length_replicate, List.length_set, List.length_map, List.length_reverse, Nat.mul_one] <;> omega))]) (by first | omega | (simp only [bsD_len, stD_len, stL_len, dI_len, List.length_append, List.length_cons, List.length_nil, List.length_take, List.length_drop, List.length_replicate, List.length_set, List.length_map, List.length_reverse, Nat.mul_one] <;> omega) | rfl)))) FzS.nil) FzG.nil ?_
    refine AW.ret ?_
    exact EndP.of (.inr rfl) [] (P := (((dI .i64 (stL l)) : List D) = (dI .i64 l)) ∧ ((n : Nat) = n)) (by kernel_rfl) ⟨(by first | rfl | (rw [List.eq_nil_of_length_eq_zero (l := l) (by omega)]; exact congrArg _ stL_nil) | exact congrArg _ (hS.fin (by omega)).symm), rfl⟩

set_option maxHeartbeats 4000000 in
set_option maxRecDepth 100000 in
theorem V_rSorted (l : List Int) (n : Nat) (hn : List.length l = n) (h2 : n ≤ 1000000) : Fun 31 [.c (.d (D.sl (dI .i64 l) n))] (toG []) 0 (sV .i64 (stL l) n) (toG []) 0 := by
  refine Fun.mk (n := 41) Tryd.func31 rfl rfl (Nat.le_of_ble_eq_true rfl) ?_
  intro cx hcx
  refine AW.rgs [.no] [0] [] (P := True) (l' := [(0, sV .i64 l n)]) (g' := []) (nx' := 0) (by kernel_rfl) trivial ?_
  refine AW.rgs [.no] [0, 3] [] (P := True) (l' := [(0, sV .i64 l n), (3, nV)]) (g' := []) (nx' := 0) (by kernel_rfl) trivial ?_
  refine AW.seq ?_
  refine AW.rgs [.no, .no, .no] [3, 7, 8, 9] [] (P := True) (l' := [(3, nV), (7, sV .i64 l n), (8, iV ↑n), (9, iV 0)]) (g' := []) (nx' := 0) (by kernel_rfl) trivial ?_
  refine AW.block ?_
  refine AW.adoptS 3 1 3 rfl ?_
  refine AW.loopE 0 hcx (fun (x : {x : Nat × List Int // match x with | (i, o) => (i ≤ n) ∧ (SO l i o) ∧ (List.length o = i)}) => match x with | ⟨(i, o), _⟩ => (⟨[(3, oV 1 0 i 1), (7, sV .i64 l n), (8, iV ((n : Nat) : Int)), (9, iV ((i : Nat) : Int))], [(1, some (3, .ds (dI .i64 o)))], 2⟩ : ES)) (fun (x : {x : Nat × List Int // match x with | (i, o) => (i ≤ n) ∧ (SO l i o) ∧ (List.length o = i)}) => match x with | ⟨(i, o), _⟩ => n - i) ⟨((0 : Nat), (([] : List Int) : List Int)), (show ((0 : Nat) ≤ n) ∧ (SO l (0 : Nat) ([] : List Int)) ∧ (List.length ([] : List Int) = (0 : Nat)) from ⟨(by first | omega | assumption | simp), (SO.zero l), rfl⟩)⟩ [(1, 0)] (P := ((0 : Nat) = 0) ∧ ((0 : Nat) = 0) ∧ (((dI .i64 l) : List D) = (dI .i64 l)) ∧ ((n : Nat) = n) ∧ ((((n : Nat) : Int) : Int) = ((n : Nat) : Int)) ∧ ((0 : Int) = 0) ∧ (((dI .i64 ([] : List Int)) : List D) = ([] : List D))) (by kernel_rfl) ⟨rfl, rfl, rfl, rfl, rfl, rfl, (by first | rfl | with_reducible assumption)⟩ ?_
  rintro ⟨⟨i, o⟩, hinv0⟩
  obtain ⟨hi, hS, ho⟩ : (i ≤ n) ∧ (SO l i o) ∧ (List.length o = i) := hinv0
  refine AW.es (l := [(3, oV 1 0 i 1), (7, sV .i64 l n), (8, iV ((n : Nat) : Int)), (9, iV ((i : Nat) : Int))]) (g := [(1, some (3, .ds (dI .i64 o)))]) (nx := 2) rfl rfl rfl ?_
  by_cases hx1 : (((i : Nat) : Int) < ((n : Nat) : Int))
  · refine AW.rgs [.b true] [3, 7, 8, 9, 10] [1] (P := ((((i : Nat) : Int) < ((n : Nat) : Int)))) (l' := [(3, oV 1 0 i 1), (7, sV .i64 l n), (8, iV ↑n), (9, iV ↑i), (10, bV true)]) (g' := [(1, some (3, .ds (dI .i64 o)))]) (nx' := 2) (by kernel_rfl) (by omega) ?_
    refine AW.seq ?_
    refine AW.cond_t (.tmp (Look.of rfl)) ?_
    refine AW.skip ?_
    refine AW.seq ?_
    refine AW.block ?_
    refine AW.rgs [.n i, .d (D.lit (.int .i64 (List.getD l i 0))), .no] [3, 5, 7, 8, 9] [1] (P := ((((i : Nat) : Int) : Int) = ((i : Nat) : Int)) ∧ (i < n) ∧ ((List.drop i (dI .i64 l))[0]? = some (D.lit (.int .i64 (List.getD l i 0))))) (l' := [(3, oV 1 0 i 1), (5, iV (List.getD l i 0)), (7, sV .i64 l n), (8, iV ↑n), (9, iV ↑i)]) (g' := [(1, some (3, .ds (dI .i64 o)))]) (nx' := 2) (by kernel_rfl) ⟨rfl, (by omega), (dI_at _ _ _ (by first | omega | (simp only [bsD_len, stD_len, stL_len, dI_len, List.length_append, List.length_cons, List.length_nil, List.length_take, List.length_drop, List.length_replicate, List.length_set, List.length_map, List.length_reverse, Nat.mul_one] <;> omega) | rfl))⟩ ?_
    refine AW.rgs [.no, .no, .no] [3, 5, 6, 7, 8, 9] [1] (P := True) (l' := [(3, oV 1 0 i 1), (5, iV (List.getD l i 0)), (6, iV ↑i), (7, sV .i64 l n), (8, iV ↑n), (9, iV ↑i)]) (g' := [(1, some (3, .ds (dI .i64 o)))]) (nx' := 2) (by kernel_rfl) trivial ?_
    refine AW.seq ?_
    refine AW.block ?_
    refine AW.loopE 0 hcx (fun (x : {x : Nat // match x with | k => (k ≤ i) ∧ (∀ j, k ≤ j → j < i → List.getD l i 0 < List.getD o j 0)}) => match x with | ⟨k, _⟩ => (⟨[(3, oV 1 0 i 1), (5, iV (List.getD l i 0)), (6, iV ((k : Nat) : Int)), (7, sV .i64 l n), (8, iV ((n : Nat) : Int)), (9, iV ((i : Nat) : Int))], [(1, some (3, .ds (dI .i64 o)))], 2⟩ : ES)) (fun (x : {x : Nat // match x with | k => (k ≤ i) ∧ (∀ j, k ≤ j → j < i → List.getD l i 0 < List.getD o j 0)}) => match x with | ⟨k, _⟩ => k) ⟨(i : Nat), (show (i ≤ i) ∧ (∀ j, i ≤ j → j < i → List.getD l i 0 < List.getD o j 0) from ⟨(by first | omega | assumption | simp), (fun j h8 h9 => by omega)⟩)⟩ [] (P := ((0 : Nat) = 0) ∧ ((i : Nat) = i) ∧ (((List.getD l i 0) : Int) = (List.getD l i 0)) ∧ ((((i : Nat) : Int) : Int) = ((i : Nat) : Int)) ∧ (((dI .i64 l) : List D) = (dI .i64 l)) ∧ ((n : Nat) = n) ∧ ((((n : Nat) : Int) : Int) = ((n : Nat) : Int)) ∧ ((((i : Nat) : Int) : Int) = ((i : Nat) : Int)) ∧ (((dI .i64 o) : List D) = (dI .i64 o))) (by kernel_rfl) ⟨rfl, rfl, rfl, rfl, rfl, rfl, rfl, rfl, rfl⟩ ?_
    rintro ⟨k, hinv1⟩
    obtain ⟨hk, hk2⟩ : (k ≤ i) ∧ (∀ j, k ≤ j → j < i → List.getD l i 0 < List.getD o j 0) := hinv1
    refine AW.es (l := [(3, oV 1 0 i 1), (5, iV (List.getD l i 0)), (6, iV ((k : Nat) : Int)), (7, sV .i64 l n), (8, iV ((n : Nat) : Int)), (9, iV ((i : Nat) : Int))]) (g := [(1, some (3, .ds (dI .i64 o)))]) (nx := 2) rfl rfl rfl ?_
    refine AW.seq ?_
    by_cases hx2 : ((0 : Int) < ((k : Nat) : Int))
    · by_cases hx3 : ((List.getD l i 0) < (List.getD o (k - 1) 0))
      · refine AW.rgs [.no, .b true, .no, .no, .no, .w, .n2 (k - 1) (k - 1), .d (D.lit (.int .i64 (List.getD o (k - 1) 0))), .no, .b true, .no] [3, 5, 6, 7, 8, 9, 25] [1] (P := (((0 : Int) < ((k : Nat) : Int))) ∧ ((-9223372036854775808) ≤ (((k : Nat) : Int) - 1) ∧ (((k : Nat) : Int) - 1) ≤ 9223372036854775807) ∧ (((((k : Nat) : Int) - 1) : Int) = (((k - 1) : Nat) : Int)) ∧ ((k - 1) < i) ∧ ((0 : Nat) + (k - 1) * 1 = (k - 1)) ∧ ((dI .i64 o)[(k - 1)]? = some (D.lit (.int .i64 (List.getD o (k - 1) 0)))) ∧ (((List.getD l i 0) < (List.getD o (k - 1) 0)))) (l' := [(3, oV 1 0 i 1), (5, iV (List.getD l i 0)), (6, iV ↑k), (7, sV .i64 l n), (8, iV ↑n), (9, iV ↑i), (25, bV true)]) (g' := [(1, some (3, .ds (dI .i64 o)))]) (nx' := 2) (by kernel_rfl) ⟨(by omega), ⟨by omega, by omega⟩, (by first | rfl | omega), (by omega), (by omega), (dI_get _ _ _ (by first | omega | (simp only [bsD_len, stD_len, stL_len, dI_len, List.length_append, List.length_cons, List.length_nil, List.length_take, List.length_drop, List.length_replicate, List.length_set, List.length_map, List.length_reverse, Nat.mul_one] <;> omega) | rfl)), (by omega)⟩ ?_
        refine AW.cond_t (.tmp (Look.of rfl)) ?_
        refine AW.skip ?_
        refine AW.block ?_
        refine AW.rg [.no, .w, .no] [3, 5, 6, 7, 8, 9] [1] (P := ((-9223372036854775808) ≤ (((k : Nat) : Int) - 1) ∧ (((k : Nat) : Int) - 1) ≤ 9223372036854775807)) (l' := [(3, oV 1 0 i 1), (5, iV (List.getD l i 0)), (6, iV (↑k - 1)), (7, sV .i64 l n), (8, iV ↑n), (9, iV ↑i)]) (g' := [(1, some (3, .ds (dI .i64 o)))]) (nx' := 2) (by kernel_rfl) ⟨by omega, by omega⟩ ?_
        exact Rd.of ⟨((k - 1) : Nat), (show ((k - 1) ≤ i) ∧ (∀ j, (k - 1) ≤ j → j < i → List.getD l i 0 < List.getD o j 0) from ⟨(by first | omega | assumption | simp), (gt_step hk2 (by omega) (by omega))⟩)⟩ [] (P := ((0 : Nat) = 0) ∧ ((i : Nat) = i) ∧ (((List.getD l i 0) : Int) = (List.getD l i 0)) ∧ (((((k - 1) : Nat) : Int) : Int) = (((k : Nat) : Int) - 1)) ∧ (((dI .i64 l) : List D) = (dI .i64 l)) ∧ ((n : Nat) = n) ∧ ((((n : Nat) : Int) : Int) = ((n : Nat) : Int)) ∧ ((((i : Nat) : Int) : Int) = ((i : Nat) : Int)) ∧ (((dI .i64 o) : List D) = (dI .i64 o))) (by kernel_rfl) ⟨rfl, rfl, rfl, (by first | rfl | omega | assumption | (simp; done) | (simp; omega)), rfl, rfl, rfl, rfl, rfl⟩ (show (k - 1) < k from (by first | omega | (show _ < _; simp; omega)))
      · refine AW.rgs [.no, .b true, .no, .no, .no, .w, .n2 (k - 1) (k - 1), .d (D.lit (.int .i64 (List.getD o (k - 1) 0))), .no, .b false, .no] [3, 5, 6, 7, 8, 9, 25] [1] (P := (((0 : Int) < ((k : Nat) : Int))) ∧ ((-9223372036854775808) ≤ (((k : Nat) : Int) - 1) ∧ (((k : Nat) : Int) - 1) ≤ 9223372036854775807) ∧ (((((k : Nat) : Int) - 1) : Int) = (((k - 1) : Nat) : Int)) ∧ ((k - 1) < i) ∧ ((0 : Nat) + (k - 1) * 1 = (k - 1)) ∧ ((dI .i64 o)[(k - 1)]? = some (D.lit (.int .i64 (List.getD o (k - 1) 0)))) ∧ (¬ ((List.getD l i 0) < (List.getD o (k - 1) 0)))) (l' := [(3, oV 1 0 i 1), (5, iV (List.getD l i 0)), (6, iV ↑k), (7, sV .i64 l n), (8, iV ↑n), (9, iV ↑i), (25, bV false)]) (g' := [(1, some (3, .ds (dI .i64 o)))]) (nx' := 2) (by kernel_rfl) ⟨(by omega), ⟨by omega, by omega⟩, (by first | rfl | omega), (by omega), (by omega), (dI_get _ _ _ (by first | omega | (simp only [bsD_len, stD_len, stL_len, dI_len, List.length_append, List.length_cons, List.length_nil, List.length_take, List.length_drop, List.length_replicate, List.length_set, List.length_map, List.length_reverse, Nat.mul_one] <;> omega) | rfl)), (by omega)⟩ ?_
        refine AW.cond_f (.tmp (Look.of rfl)) ?_
        refine AW.exit ?_
        refine AW.rg [.no, .no, .sl 0 k 0 k, .ap (some (dI .i64 (List.take k o))) k (dI .i64 (List.take k o)), .no, .no, .ap none (k + 1) (dI .i64 ((List.take k o) ++ ([(List.getD l i 0)] : List Int))), .no, .no, .sl k i k (i - k), .ap (some (dI .i64 (List.drop k o))) ((k + 1) + (i - k)) (dI .i64 (((List.take k o) ++ ([(List.getD l i 0)] : List Int)) ++ (List.drop k o))), .no] [3, 7, 8, 9] [5] (P := ((0 : Nat) = 0) ∧ ((((k : Nat) : Int) : Int) = ((k : Nat) : Int)) ∧ ((0 : Nat) ≤ k) ∧ (k ≤ i) ∧ ((0 : Nat) + 0 * 1 = 0) ∧ (k - 0 = k) ∧ (List.take (k * 1) (List.drop 0 (dI .i64 o)) = (dI .i64 (List.take k o))) ∧ ((dI .i64 (List.take k o)).length = k * 1) ∧ (k * 8 ≤ 140737488355328) ∧ (k = k) ∧ (((dI .i64 (List.take k o)) : List D) = (dI .i64 (List.take k o))) ∧ ([iD (List.getD l i 0)].length = 1 * 1) ∧ (((dI .i64 (List.take k o)) : List D).length = k * 1) ∧ ((k + 1) * 8 ≤ 140737488355328) ∧ (k + 1 = (k + 1)) ∧ (((dI .i64 (List.take k o)) : List D) ++ [iD (List.getD l i 0)] = (dI .i64 ((List.take k o) ++ ([(List.getD l i 0)] : List Int)))) ∧ ((((k : Nat) : Int) : Int) = ((k : Nat) : Int)) ∧ (i = i) ∧ (k ≤ i) ∧ (i ≤ i) ∧ ((0 : Nat) + k * 1 = k) ∧ (i - k = (i - k)) ∧ (List.take ((i - k) * 1) (List.drop k (dI .i64 o)) = (dI .i64 (List.drop k o))) ∧ ((dI .i64 (List.drop k o)).length = (i - k) * 1) ∧ (((dI .i64 ((List.take k o) ++ ([(List.getD l i 0)] : List Int))) : List D).length = (k + 1) * 1) ∧ (((k + 1) + (i - k)) * 8 ≤ 140737488355328) ∧ ((k + 1) + (i - k) = ((k + 1) + (i - k))) ∧ (((dI .i64 ((List.take k o) ++ ([(List.getD l i 0)] : List Int))) : List D) ++ (dI .i64 (List.drop k o)) = (dI .i64 (((List.take k o) ++ ([(List.getD l i 0)] : List Int)) ++ (List.drop k o))))) (l' := [(3, oV 5 0 ((k + 1) + (i - k)) 1), (7, sV .i64 l n), (8, iV ↑n), (9, iV ↑i)]) (g' := [(5, some (3, .ds (dI .i64 (((List.take k o) ++ ([(List.getD l i 0)] : List Int)) ++ (List.drop k o)))))]) (nx' := 6) (by kernel_rfl) ⟨rfl, rfl, (by omega), (by omega), (by omega), (by omega), (by first | rfl | with_reducible assumption | exact dI_app _ _ _ | exact dI_rep _ _ _ | (simp only [dI_take, dI_drop, dI_app, Nat.mul_one, Nat.zero_mul, List.drop_zero, List.nil_append, List.append_nil]; done) | (simp only [dI_take, dI_drop, dI_app, Nat.mul_one, Nat.zero_mul, List.drop_zero, List.nil_append, List.append_nil]; rfl) | (rw [List.take_of_length_le (by simp only [bsD_len, stD_len, stL_len, dI_len, List.length_drop, List.length_replicate, Nat.mul_one] <;> omega)]; first | rfl | (simp only [dI_drop, Nat.mul_one, Nat.zero_mul, List.drop_zero]; done) | (simp only [dI_drop, Nat.mul_one, Nat.zero_mul, List.drop_zero]; rfl))), (by first | omega | (simp only [bsD_len, stD_len, stL_len, dI_len, List.length_append, List.length_cons, List.length_nil, List.length_take, List.length_drop, List.length_replicate, List.length_set, List.length_map, List.length_reverse, Nat.mul_one] <;> omega) | rfl), (by omega), rfl, rfl, (by first | omega | (simp only [bsD_len, stD_len, stL_len, dI_len, List.length_append, List.length_cons, List.length_nil, List.length_take, List.length_drop, List.length_replicate, List.length_set, List.length_map, List.length_reverse, Nat.mul_one] <;> omega) | rfl), (by first | omega | (simp only [bsD_len, stD_len, stL_len, dI_len, List.length_append, List.length_cons, List.length_nil, List.length_take, List.length_drop, List.length_replicate, List.length_set, List.length_map, List.length_reverse, Nat.mul_one] <;> omega) | rfl), (by omega), (by omega), (dI_app .i64 (List.take k o) ([(List.getD l i 0)] : List Int)), rfl, rfl, (by omega), (by omega), (by omega), (by omega), (by first | rfl | with_reducible assumption | exact dI_app _ _ _ | exact dI_rep _ _ _ | (simp only [dI_take, dI_drop, dI_app, Nat.mul_one, Nat.zero_mul, List.drop_zero, List.nil_append, List.append_nil]; done) | (simp only [dI_take, dI_drop, dI_app, Nat.mul_one, Nat.zero_mul, List.drop_zero, List.nil_append, List.append_nil]; rfl) | (rw [List.take_of_length_le (by simp only [bsD_len, stD_len, stL_len, dI_len, List.length_drop, List.length_replicate, Nat.mul_one] <;> omega)]; first | rfl | (simp only [dI_drop, Nat.mul_one, Nat.zero_mul, List.drop_zero]; done) | (simp only [dI_drop, Nat.mul_one, Nat.zero_mul, List.drop_zero]; rfl))), (by first | omega | (simp only [bsD_len, stD_len, stL_len, dI_len, List.length_append, List.length_cons, List.length_nil, List.length_take, List.length_drop, List.length_replicate, List.length_set, List.length_map, List.length_reverse, Nat.mul_one] <;> omega) | rfl), (by first | omega | (simp only [bsD_len, stD_len, stL_len, dI_len, List.length_append, List.length_cons, List.length_nil, List.length_take, List.length_drop, List.length_replicate, List.length_set, List.length_map, List.length_reverse, Nat.mul_one] <;> omega) | rfl), (by omega), (by omega), (dI_app .i64 ((List.take k o) ++ ([(List.getD l i 0)] : List Int)) (List.drop k o))⟩ ?_
        refine AW.rg [.w, .no] [3, 7, 8, 9] [5] (P := ((-9223372036854775808) ≤ (((i : Nat) : Int) + 1) ∧ (((i : Nat) : Int) + 1) ≤ 9223372036854775807)) (l' := [(3, oV 5 0 ((k + 1) + (i - k)) 1), (7, sV .i64 l n), (8, iV ↑n), (9, iV (↑i + 1))]) (g' := [(5, some (3, .ds (dI .i64 (((List.take k o) ++ ([(List.getD l i 0)] : List Int)) ++ (List.drop k o)))))]) (nx' := 6) (by kernel_rfl) ⟨by omega, by omega⟩ ?_
        exact Rd.of ⟨(((i + 1) : Nat), ((((List.take k o) ++ ([(List.getD l i 0)] : List Int)) ++ (List.drop k o)) : List Int)), (show ((i + 1) ≤ n) ∧ (SO l (i + 1) (((List.take k o) ++ ([(List.getD l i 0)] : List Int)) ++ (List.drop k o))) ∧ (List.length (((List.take k o) ++ ([(List.getD l i 0)] : List Int)) ++ (List.drop k o)) = (i + 1)) from ⟨(by first | omega | assumption | simp), (hS.step (by omega) rfl (by omega) (fun j h8 h9 => hk2 j h8 (by omega)) (by omega) rfl), (by simp only [bsD_len, stD_len, stL_len, List.length_append, List.length_cons, List.length_nil, List.length_take, List.length_drop] <;> omega)⟩)⟩ [(1, 5)] (P := ((0 : Nat) = 0) ∧ (((i + 1) : Nat) = ((k + 1) + (i - k))) ∧ (((dI .i64 l) : List D) = (dI .i64 l)) ∧ ((n : Nat) = n) ∧ ((((n : Nat) : Int) : Int) = ((n : Nat) : Int)) ∧ (((((i + 1) : Nat) : Int) : Int) = (((i : Nat) : Int) + 1)) ∧ (((dI .i64 (((List.take k o) ++ ([(List.getD l i 0)] : List Int)) ++ (List.drop k o))) : List D) = (dI .i64 (((List.take k o) ++ ([(List.getD l i 0)] : List Int)) ++ (List.drop k o))))) (by kernel_rfl) ⟨rfl, (by first | rfl | omega | assumption | (simp; done) | (simp; omega)), rfl, rfl, rfl, (by first | rfl | omega | assumption | (simp; done) | (simp; omega)), rfl⟩ (show n - (i + 1) < n - i from (by first | omega | (show _ < _; simp; omega)))
    · refine AW.rgs [.no, .b false, .no, .no] [3, 5, 6, 7, 8, 9, 25] [1] (P := (¬ ((0 : Int) < ((k : Nat) : Int)))) (l' := [(3, oV 1 0 i 1), (5, iV (List.getD l i 0)), (6, iV ↑k), (7, sV .i64 l n), (8, iV ↑n), (9, iV ↑i), (25, bV false)]) (g' := [(1, some (3, .ds (dI .i64 o)))]) (nx' := 2) (by kernel_rfl) (by omega) ?_
      refine AW.cond_f (.tmp (Look.of rfl)) ?_
      refine AW.exit ?_
      refine AW.rg [.no, .no, .sl 0 k 0 k, .ap (some (dI .i64 (List.take k o))) k (dI .i64 (List.take k o)), .no, .no, .ap none (k + 1) (dI .i64 ((List.take k o) ++ ([(List.getD l i 0)] : List Int))), .no, .no, .sl k i k (i - k), .ap (some (dI .i64 (List.drop k o))) ((k + 1) + (i - k)) (dI .i64 (((List.take k o) ++ ([(List.getD l i 0)] : List Int)) ++ (List.drop k o))), .no] [3, 7, 8, 9] [5] (P := ((0 : Nat) = 0) ∧ ((((k : Nat) : Int) : Int) = ((k : Nat) : Int)) ∧ ((0 : Nat) ≤ k) ∧ (k ≤ i) ∧ ((0 : Nat) + 0 * 1 = 0) ∧ (k - 0 = k) ∧ (List.take (k * 1) (List.drop 0 (dI .i64 o)) = (dI .i64 (List.take k o))) ∧ ((dI .i64 (List.take k o)).length = k * 1) ∧ (k * 8 ≤ 140737488355328) ∧ (k = k) ∧ (((dI .i64 (List.take k o)) : List D) = (dI .i64 (List.take k o))) ∧ ([iD (List.getD l i 0)].length = 1 * 1) ∧ (((dI .i64 (List.take k o)) : List D).length = k * 1) ∧ ((k + 1) * 8 ≤ 140737488355328) ∧ (k + 1 = (k + 1)) ∧ (((dI .i64 (List.take k o)) : List D) ++ [iD (List.getD l i 0)] = (dI .i64 ((List.take k o) ++ ([(List.getD l i 0)] : List Int)))) ∧ ((((k : Nat) : Int) : Int) = ((k : Nat) : Int)) ∧ (i = i) ∧ (k ≤ i) ∧ (i ≤ i) ∧ ((0 : Nat) + k * 1 = k) ∧ (i - k = (i - k)) ∧ (List.take ((i - k) * 1) (List.drop k (dI .i64 o)) = (dI .i64 (List.drop k o))) ∧ ((dI .i64 (List.drop k o)).length = (i - k) * 1) ∧ (((dI .i64 ((List.take k o) ++ ([(List.getD l i 0)] : List Int))) : List D).length = (k + 1) * 1) ∧ (((k + 1) + (i - k)) * 8 ≤ 140737488355328) ∧ ((k + 1) + (i - k) = ((k + 1) + (i - k))) ∧ (((dI .i64 ((List.take k o) ++ ([(List.getD l i 0)] : List Int))) : List D) ++ (dI .i64 (List.drop k o)) = (dI .i64 (((List.take k o) ++ ([(List.getD l i 0)] : List Int)) ++ (List.drop k o))))) (l' := [(3, oV 5 0 ((k + 1) + (i - k)) 1), (7, sV .i64 l n), (8, iV ↑n), (9, iV ↑i)]) (g' := [(5, some (3, .ds (dI .i64 (((List.take k o) ++ ([(List.getD l i 0)] : List Int)) ++ (List.drop k o)))))]) (nx' := 6) (by kernel_rfl) ⟨rfl, rfl, (by omega), (by omega), (by omega), (by omega), (by first | rfl | with_reducible assumption | exact dI_app _ _ _ | exact dI_rep _ _ _ | (simp only [dI_take, dI_drop, dI_app, Nat.mul_one, Nat.zero_mul, List.drop_zero, List.nil_append, List.append_nil]; done) | (simp only [dI_take, dI_drop, dI_app, Nat.mul_one, Nat.zero_mul, List.drop_zero, List.nil_append, List.append_nil]; rfl) | (rw [List.take_of_length_le (by simp only [bsD_len, stD_len, stL_len, dI_len, List.length_drop, List.length_replicate, Nat.mul_one] <;> omega)]; first | rfl | (simp only [dI_drop, Nat.mul_one, Nat.zero_mul, List.drop_zero]; done) | (simp only [dI_drop, Nat.mul_one, Nat.zero_mul, List.drop_zero]; rfl))), (by first | omega | (simp only [bsD_len, stD_len, stL_len, dI_len, List.length_append, List.length_cons, List.length_nil, List.length_take, List.length_drop, List.length_replicate, List.length_set, List.length_map, List.length_reverse, Nat.mul_one] <;> omega) | rfl), (by omega), rfl, rfl, (by first | omega | (simp only [bsD_len, stD_len, stL_len, dI_len, List.length_append, List.length_cons, List.length_nil, List.length_take, List.length_drop, List.length_replicate, List.length_set, List.length_map, List.length_reverse, Nat.mul_one] <;> omega) | rfl), (by first | omega | (simp only [bsD_len, stD_len, stL_len, dI_len, List.length_append, List.length_cons, List.length_nil, List.length_take, List.length_drop, List.length_replicate, List.length_set, List.length_map, List.length_reverse, Nat.mul_one] <;> omega) | rfl), (by omega), (by omega), (dI_app .i64 (List.take k o) ([(List.getD l i 0)] : List Int)), rfl, rfl, (by omega), (by omega), (by omega), (by omega), (by first | rfl | with_reducible assumption | exact dI_app _ _ _ | exact dI_rep _ _ _ | (simp only [dI_take, dI_drop, dI_app, Nat.mul_one, Nat.zero_mul, List.drop_zero, List.nil_append, List.append_nil]; done) | (simp only [dI_take, dI_drop, dI_app, Nat.mul_one, Nat.zero_mul, List.drop_zero, List.nil_append, List.append_nil]; rfl) | (rw [List.take_of_length_le (by simp only [bsD_len, stD_len, stL_len, dI_len, List.length_drop, List.length_replicate, Nat.mul_one] <;> omega)]; first | rfl | (simp only [dI_drop, Nat.mul_one, Nat.zero_mul, List.drop_zero]; done) | (simp only [dI_drop, Nat.mul_one, Nat.zero_mul, List.drop_zero]; rfl))), (by first | omega | (simp only [bsD_len, stD_len, stL_len, dI_len, List.length_append, List.length_cons, List.length_nil, List.length_take, List.length_drop, List.length_replicate, List.length_set, List.length_map, List.length_reverse, Nat.mul_one] <;> omega) | rfl), (by first | omega | (simp only [bsD_len, stD_len, stL_len, dI_len, List.length_append, List.length_cons, List.length_nil, List.length_take, List.length_drop, List.length_replicate, List.length_set, List.length_map, List.length_reverse, Nat.mul_one] <;> omega) | rfl), (by omega), (by omega), (dI_app .i64 ((List.take k o) ++ ([(List.getD l i 0)] : List Int)) (List.drop k o))⟩ ?_
      refine AW.rg [.w, .no] [3, 7, 8, 9] [5] (P := ((-9223372036854775808) ≤ (((i : Nat) : Int) + 1) ∧ (((i : Nat) : Int) + 1) ≤ 9223372036854775807)) (l' := [(3, oV 5 0 ((k + 1) + (i - k)) 1), (7, sV .i64 l n), (8, iV ↑n), (9, iV (↑i + 1))]) (g' := [(5, some (3, .ds (dI .i64 (((List.take k o) ++ ([(List.getD l i 0)] : List Int)) ++ (List.drop k o)))))]) (nx' := 6) (by kernel_rfl) ⟨by omega, by omega⟩ ?_
      exact Rd.of ⟨(((i + 1) : Nat), ((((List.take k o) ++ ([(List.getD l i 0)] : List Int)) ++ (List.drop k o)) : List Int)), (show ((i + 1) ≤ n) ∧ (SO l (i + 1) (((List.take k o) ++ ([(List.getD l i 0)] : List Int)) ++ (List.drop k o))) ∧ (List.length (((List.take k o) ++ ([(List.getD l i 0)] : List Int)) ++ (List.drop k o)) = (i + 1)) from ⟨(by first | omega | assumption | simp), (hS.step (by omega) rfl (by omega) (fun j h8 h9 => hk2 j h8 (by omega)) (by omega) rfl), (by simp only [bsD_len, stD_len, stL_len, List.length_append, List.length_cons, List.length_nil, List.length_take, List.length_drop] <;> omega)⟩)⟩ [(1, 5)] (P := ((0 : Nat) = 0) ∧ (((i + 1) : Nat) = ((k + 1) + (i - k))) ∧ (((dI .i64 l) : List D) = (dI .i64 l)) ∧ ((n : Nat) = n) ∧ ((((n : Nat) : Int) : Int) = ((n : Nat) : Int)) ∧ (((((i + 1) : Nat) : Int) : Int) = (((i : Nat) : Int) + 1)) ∧ (((dI .i64 (((List.take k o) ++ ([(List.getD l i 0)] : List Int)) ++ (List.drop k o))) : List D) = (dI .i64 (((List.take k o) ++ ([(List.getD l i 0)] : List Int)) ++ (List.drop k o))))) (by kernel_rfl) ⟨rfl, (by first | rfl | omega | assumption | (simp; done) | (simp; omega)), rfl, rfl, rfl, (by first | rfl | omega | assumption | (simp; done) | (simp; omega)), rfl⟩ (show n - (i + 1) < n - i from (by first | omega | (show _ < _; simp; omega)))
  · refine AW.rgs [.b false] [3, 7, 8, 9, 10] [1] (P := (¬ (((i : Nat) : Int) < ((n : Nat) : Int)))) (l' := [(3, oV 1 0 i 1), (7, sV .i64 l n), (8, iV ↑n), (9, iV ↑i), (10, bV false)]) (g' := [(1, some (3, .ds (dI .i64 o)))]) (nx' := 2) (by kernel_rfl) (by omega) ?_
    refine AW.seq ?_
    refine AW.cond_f (.tmp (Look.of rfl)) ?_
    refine AW.exit ?_
    refine AW.rgs [.no, .no] [2] [1] (P := True) (l' := [(2, oV 1 0 i 1)]) (g' := [(1, some (3, .ds (dI .i64 o)))]) (nx' := 2) (by kernel_rfl) trivial ?_
    refine AW.freeze 1 (l' := [(2, sV .i64 o i)]) (g' := []) rfl (FzS.cons rfl (.e (.c (@FzC.own 1 ((dI .i64 o) : List D) 0 i 1 true ((dI .i64 o) : List D) (by rw [List.drop_zero, Nat.mul_one, List.take_of_length_le (by first | omega | (simp only [bsD_len, stD_len, stL_len, dI_len, List.length_append, List.length_cons, List.length_nil, List.length_take, List.length_drop, List.length_replicate, List.length_set, List.length_map, List.length_reverse, Nat.mul_one] <;> omega))]) (by first | omega | (simp only [bsD_len, stD_len, stL_len, dI_len, List.length_append, List.length_cons, List.length_nil, List.length_take, List.length_drop, List.length_replicate, List.length_set, List.length_map, List.length_reverse, Nat.mul_one] <;> omega) | rfl)))) FzS.nil) FzG.nil ?_
    refine AW.ret ?_
    exact EndP.of (.inr rfl) [] (P := (((dI .i64 (stL l)) : List D) = (dI .i64 o)) ∧ ((n : Nat) = i)) (by kernel_rfl) ⟨(by first | rfl | (rw [List.eq_nil_of_length_eq_zero (l := l) (by omega)]; exact congrArg _ stL_nil) | exact congrArg _ (hS.fin (by omega)).symm), (by first | omega | rfl)⟩

set_option maxHeartbeats 4000000 in
set_option maxRecDepth 100000 in
theorem V_Common (a b : List Int) (n m : Nat) (hn : List.length a = n) (hm : List.length b = m) (h2 : n ≤ 1000000) (h3 : m ≤ 1000000) : Fun 33 [.c (.d (D.sl (dI .i64 a) n)), .c (.d (D.sl (dI .i64 b) m))] (toG []) 0 (sV .i64 (coL a b m) (List.length (coL a b m))) (toG []) 0 := by
  refine Fun.mk (n := 24) Tryd.func33 rfl rfl (Nat.le_of_ble_eq_true rfl) ?_
  intro cx hcx
  refine AW.rgs [.no] [0, 1] [] (P := True) (l' := [(0, sV .i64 a n), (1, sV .i64 b m)]) (g' := []) (nx' := 0) (by kernel_rfl) trivial ?_
  refine AW.rgs [.no] [0, 1, 5] [] (P := True) (l' := [(0, sV .i64 a n), (1, sV .i64 b m), (5, nV)]) (g' := []) (nx' := 0) (by kernel_rfl) trivial ?_
  refine AW.seq ?_
  refine AW.rgs [.no, .no, .no] [1, 5, 8, 9, 10] [] (P := True) (l' := [(1, sV .i64 b m), (5, nV), (8, sV .i64 a n), (9, iV ↑n), (10, iV 0)]) (g' := []) (nx' := 0) (by kernel_rfl) trivial ?_
  refine AW.block ?_
  refine AW.adoptS 5 1 3 rfl ?_
  refine AW.loopE 0 hcx (fun (x : {x : Nat × Nat × List Int // match x with | (i, k, o) => (i ≤ n ∧ k ≤ i) ∧ (CO a b m i o) ∧ (List.length o = k)}) => match x with | ⟨(i, k, o), _⟩ => (⟨[(1, sV .i64 b m), (5, oV 1 0 k 1), (8, sV .i64 a n), (9, iV ((n : Nat) : Int)), (10, iV ((i : Nat) : Int))], [(1, some (3, .ds (dI .i64 o)))], 2⟩ : ES)) (fun (x : {x : Nat × Nat × List Int // match x with | (i, k, o) => (i ≤ n ∧ k ≤ i) ∧ (CO a b m i o) ∧ (List.length o = k)}) => match x with | ⟨(i, k, o), _⟩ => n - i) ⟨((0 : Nat), (0 : Nat), (([] : List Int) : List Int)), (show ((0 : Nat) ≤ n ∧ (0 : Nat) ≤ (0 : Nat)) ∧ (CO a b m (0 : Nat) ([] : List Int)) ∧ (List.length ([] : List Int) = (0 : Nat)) from ⟨(by first | omega | assumption | simp), (CO.zero a b m), rfl⟩)⟩ [(1, 0)] (P := (((dI .i64 b) : List D) = (dI .i64 b)) ∧ ((m : Nat) = m) ∧ ((0 : Nat) = 0) ∧ ((0 : Nat) = 0) ∧ (((dI .i64 a) : List D) = (dI .i64 a)) ∧ ((n : Nat) = n) ∧ ((((n : Nat) : Int) : Int) = ((n : Nat) : Int)) ∧ ((0 : Int) = 0) ∧ (((dI .i64 ([] : List Int)) : List D) = ([] : List D))) (by kernel_rfl) ⟨rfl, rfl, rfl, rfl, rfl, rfl, rfl, rfl, (by first | rfl | with_reducible assumption)⟩ ?_
  rintro ⟨⟨i, k, o⟩, hinv0⟩
  obtain ⟨hi, hC, ho⟩ : (i ≤ n ∧ k ≤ i) ∧ (CO a b m i o) ∧ (List.length o = k) := hinv0
  refine AW.es (l := [(1, sV .i64 b m), (5, oV 1 0 k 1), (8, sV .i64 a n), (9, iV ((n : Nat) : Int)), (10, iV ((i : Nat) : Int))]) (g := [(1, some (3, .ds (dI .i64 o)))]) (nx := 2) rfl rfl rfl ?_
  by_cases hx1 : (((i : Nat) : Int) < ((n : Nat) : Int))
  · refine AW.rgs [.b true] [1, 5, 8, 9, 10, 11] [1] (P := ((((i : Nat) : Int) < ((n : Nat) : Int)))) (l' := [(1, sV .i64 b m), (5, oV 1 0 k 1), (8, sV .i64 a n), (9, iV ↑n), (10, iV ↑i), (11, bV true)]) (g' := [(1, some (3, .ds (dI .i64 o)))]) (nx' := 2) (by kernel_rfl) (by omega) ?_
    refine AW.seq ?_
    refine AW.cond_t (.tmp (Look.of rfl)) ?_
    refine AW.skip ?_
    refine AW.seq ?_
    refine AW.block ?_
    refine AW.rgs [.n i, .d (D.lit (.int .i64 (List.getD a i 0))), .no] [1, 5, 7, 8, 9, 10] [1] (P := ((((i : Nat) : Int) : Int) = ((i : Nat) : Int)) ∧ (i < n) ∧ ((List.drop i (dI .i64 a))[0]? = some (D.lit (.int .i64 (List.getD a i 0))))) (l' := [(1, sV .i64 b m), (5, oV 1 0 k 1), (7, iV (List.getD a i 0)), (8, sV .i64 a n), (9, iV ↑n), (10, iV ↑i)]) (g' := [(1, some (3, .ds (dI .i64 o)))]) (nx' := 2) (by kernel_rfl) ⟨rfl, (by omega), (dI_at _ _ _ (by first | omega | (simp only [bsD_len, stD_len, stL_len, dI_len, List.length_append, List.length_cons, List.length_nil, List.length_take, List.length_drop, List.length_replicate, List.length_set, List.length_map, List.length_reverse, Nat.mul_one] <;> omega) | rfl))⟩ ?_
    by_cases hx3 : ((0 : Int) ≤ (idxK b (List.getD a i 0) m))
    · have hx4 : ((((-1) : Int) ≤ (idxK b (List.getD a i 0) m)) ∧ ((idxK b (List.getD a i 0) m) < ((m : Nat) : Int))) := idxK_rng b (List.getD a i 0) m
      refine AW.rgs [.no, .no, .call [] (iV (idxK b (List.getD a i 0) m)) [] 0 [] none, .b true] [1, 5, 7, 8, 9, 10, 17] [1] (P := (_) ∧ (((0 : Int) ≤ (idxK b (List.getD a i 0) m)))) (l' := [(1, sV .i64 b m), (5, oV 1 0 k 1), (7, iV (List.getD a i 0)), (8, sV .i64 a n), (9, iV ↑n), (10, iV ↑i), (17, bV true)]) (g' := [(1, some (3, .ds (dI .i64 o)))]) (nx' := 2) (by kernel_rfl) ⟨(V_Index b m (List.getD a i 0) (by omega) (by omega)), (by omega)⟩ ?_
      refine AW.cond_t (.tmp (Look.of rfl)) ?_
      refine AW.rg [.no, .no, .no, .ap none (k + 1) (dI .i64 (o ++ ([(List.getD a i 0)] : List Int))), .no] [1, 5, 8, 9, 10] [3] (P := ([iD (List.getD a i 0)].length = 1 * 1) ∧ (((dI .i64 o) : List D).length = k * 1) ∧ ((k + 1) * 8 ≤ 140737488355328) ∧ (k + 1 = (k + 1)) ∧ (((dI .i64 o) : List D) ++ [iD (List.getD a i 0)] = (dI .i64 (o ++ ([(List.getD a i 0)] : List Int))))) (l' := [(1, sV .i64 b m), (5, oV 3 0 (k + 1) 1), (8, sV .i64 a n), (9, iV ↑n), (10, iV ↑i)]) (g' := [(3, some (3, .ds (dI .i64 (o ++ ([(List.getD a i 0)] : List Int)))))]) (nx' := 4) (by kernel_rfl) ⟨(by first | omega | (simp only [bsD_len, stD_len, stL_len, dI_len, List.length_append, List.length_cons, List.length_nil, List.length_take, List.length_drop, List.length_replicate, List.length_set, List.length_map, List.length_reverse, Nat.mul_one] <;> omega) | rfl), (by first | omega | (simp only [bsD_len, stD_len, stL_len, dI_len, List.length_append, List.length_cons, List.length_nil, List.length_take, List.length_drop, List.length_replicate, List.length_set, List.length_map, List.length_reverse, Nat.mul_one] <;> omega) | rfl), (by omega), (by omega), (dI_app .i64 o ([(List.getD a i 0)] : List Int))⟩ ?_
      refine AW.rg [.w, .no] [1, 5, 8, 9, 10] [3] (P := ((-9223372036854775808) ≤ (((i : Nat) : Int) + 1) ∧ (((i : Nat) : Int) + 1) ≤ 9223372036854775807)) (l' := [(1, sV .i64 b m), (5, oV 3 0 (k + 1) 1), (8, sV .i64 a n), (9, iV ↑n), (10, iV (↑i + 1))]) (g' := [(3, some (3, .ds (dI .i64 (o ++ ([(List.getD a i 0)] : List Int)))))]) (nx' := 4) (by kernel_rfl) ⟨by omega, by omega⟩ ?_
      exact Rd.of ⟨(((i + 1) : Nat), ((k + 1) : Nat), ((o ++ ([(List.getD a i 0)] : List Int)) : List Int)), (show ((i + 1) ≤ n ∧ (k + 1) ≤ (i + 1)) ∧ (CO a b m (i + 1) (o ++ ([(List.getD a i 0)] : List Int))) ∧ (List.length (o ++ ([(List.getD a i 0)] : List Int)) = (k + 1)) from ⟨(by first | omega | assumption | simp), (by first | exact hC.y (by omega) rfl (by omega) | exact hC.n (by omega) (by omega)), (by first | assumption | (simp only [bsD_len, stD_len, stL_len, List.length_append, List.length_cons, List.length_nil] <;> omega))⟩)⟩ [(1, 3)] (P := (((dI .i64 b) : List D) = (dI .i64 b)) ∧ ((m : Nat) = m) ∧ ((0 : Nat) = 0) ∧ (((k + 1) : Nat) = (k + 1)) ∧ (((dI .i64 a) : List D) = (dI .i64 a)) ∧ ((n : Nat) = n) ∧ ((((n : Nat) : Int) : Int) = ((n : Nat) : Int)) ∧ (((((i + 1) : Nat) : Int) : Int) = (((i : Nat) : Int) + 1)) ∧ (((dI .i64 (o ++ ([(List.getD a i 0)] : List Int))) : List D) = (dI .i64 (o ++ ([(List.getD a i 0)] : List Int))))) (by kernel_rfl) ⟨rfl, rfl, rfl, rfl, rfl, rfl, rfl, (by first | rfl | omega | assumption | (simp; done) | (simp; omega)), rfl⟩ (show n - (i + 1) < n - i from (by first | omega | (show _ < _; simp; omega)))
    · have hx5 : ((((-1) : Int) ≤ (idxK b (List.getD a i 0) m)) ∧ ((idxK b (List.getD a i 0) m) < ((m : Nat) : Int))) := idxK_rng b (List.getD a i 0) m
      refine AW.rgs [.no, .no, .call [] (iV (idxK b (List.getD a i 0) m)) [] 0 [] none, .b false] [1, 5, 7, 8, 9, 10, 17] [1] (P := (_) ∧ (¬ ((0 : Int) ≤ (idxK b (List.getD a i 0) m)))) (l' := [(1, sV .i64 b m), (5, oV 1 0 k 1), (7, iV (List.getD a i 0)), (8, sV .i64 a n), (9, iV ↑n), (10, iV ↑i), (17, bV false)]) (g' := [(1, some (3, .ds (dI .i64 o)))]) (nx' := 2) (by kernel_rfl) ⟨(V_Index b m (List.getD a i 0) (by omega) (by omega)), (by omega)⟩ ?_
      refine AW.cond_f (.tmp (Look.of rfl)) ?_
      refine AW.skip ?_
      refine AW.rg [.w, .no] [1, 5, 8, 9, 10] [1] (P := ((-9223372036854775808) ≤ (((i : Nat) : Int) + 1) ∧ (((i : Nat) : Int) + 1) ≤ 9223372036854775807)) (l' := [(1, sV .i64 b m), (5, oV 1 0 k 1), (8, sV .i64 a n), (9, iV ↑n), (10, iV (↑i + 1))]) (g' := [(1, some (3, .ds (dI .i64 o)))]) (nx' := 2) (by kernel_rfl) ⟨by omega, by omega⟩ ?_
      exact Rd.of ⟨(((i + 1) : Nat), (k : Nat), (o : List Int)), (show ((i + 1) ≤ n ∧ k ≤ (i + 1)) ∧ (CO a b m (i + 1) o) ∧ (List.length o = k) from ⟨(by first | omega | assumption | simp), (by first | exact hC.y (by omega) rfl (by omega) | exact hC.n (by omega) (by omega)), (by first | assumption | (simp only [bsD_len, stD_len, stL_len, List.length_append, List.length_cons, List.length_nil] <;> omega))⟩)⟩ [] (P := (((dI .i64 b) : List D) = (dI .i64 b)) ∧ ((m : Nat) = m) ∧ ((0 : Nat) = 0) ∧ ((k : Nat) = k) ∧ (((dI .i64 a) : List D) = (dI .i64 a)) ∧ ((n : Nat) = n) ∧ ((((n : Nat) : Int) : Int) = ((n : Nat) : Int)) ∧ (((((i + 1) : Nat) : Int) : Int) = (((i : Nat) : Int) + 1)) ∧ (((dI .i64 o) : List D) = (dI .i64 o))) (by kernel_rfl) ⟨rfl, rfl, rfl, rfl, rfl, rfl, rfl, (by first | rfl | omega | assumption | (simp; done) | (simp; omega)), rfl⟩ (show n - (i + 1) < n - i from (by first | omega | (show _ < _; simp; omega)))
  · refine AW.rgs [.b false] [1, 5, 8, 9, 10, 11] [1] (P := (¬ (((i : Nat) : Int) < ((n : Nat) : Int)))) (l' := [(1, sV .i64 b m), (5, oV 1 0 k 1), (8, sV .i64 a n), (9, iV ↑n), (10, iV ↑i), (11, bV false)]) (g' := [(1, some (3, .ds (dI .i64 o)))]) (nx' := 2) (by kernel_rfl) (by omega) ?_
    refine AW.seq ?_
    refine AW.cond_f (.tmp (Look.of rfl)) ?_
    refine AW.exit ?_
    refine AW.rgs [.no, .no] [4] [1] (P := True) (l' := [(4, oV 1 0 k 1)]) (g' := [(1, some (3, .ds (dI .i64 o)))]) (nx' := 2) (by kernel_rfl) trivial ?_
    have hz1 : o = coL a b m := hC.fin (by omega)
    have hz2 : List.length (coL a b m) = k := by rw [← hz1]; omega
    refine AW.freeze 1 (l' := [(4, sV .i64 o k)]) (g' := []) rfl (FzS.cons rfl (.e (.c (@FzC.own 1 ((dI .i64 o) : List D) 0 k 1 true ((dI .i64 o) : List D) (by rw [List.drop_zero, Nat.mul_one, List.take_of_length_le (by first | omega | (simp only [bsD_len, stD_len, stL_len, dI_len, List.length_append, List.length_cons, List.length_nil, List.length_take, List.length_drop, List.length_replicate, List.length_set, List.length_map, List.length_reverse, Nat.mul_one] <;> omega))]) (by first | omega | (simp only [bsD_len, stD_len, stL_len, dI_len, List.length_append, List.length_cons, List.length_nil, List.length_take, List.length_drop, List.length_replicate, List.length_set, List.length_map, List.length_reverse, Nat.mul_one] <;> omega) | rfl)))) FzS.nil) FzG.nil ?_
    refine AW.ret ?_
    exact EndP.of (.inr rfl) [] (P := (((dI .i64 (coL a b m)) : List D) = (dI .i64 o)) ∧ (((List.length (coL a b m)) : Nat) = k)) (by kernel_rfl) ⟨(by first | rfl | exact congrArg _ hz1.symm), (by first | omega | rfl | assumption | (simp; done) | (simp; omega))⟩

set_option maxHeartbeats 4000000 in
set_option maxRecDepth 100000 in
theorem V_rCommon (a b : List Int) (n m : Nat) (hn : List.length a = n) (hm : List.length b = m) (h2 : n ≤ 1000000) (h3 : m ≤ 1000000) : Fun 34 [.c (.d (D.sl (dI .i64 a) n)), .c (.d (D.sl (dI .i64 b) m))] (toG []) 0 (sV .i64 (coL a b m) (List.length (coL a b m))) (toG []) 0 := by
  refine Fun.mk (n := 24) Tryd.func34 rfl rfl (Nat.le_of_ble_eq_true rfl) ?_
  intro cx hcx
  refine AW.rgs [.no] [0, 1] [] (P := True) (l' := [(0, sV .i64 a n), (1, sV .i64 b m)]) (g' := []) (nx' := 0) (by kernel_rfl) trivial ?_
  refine AW.rgs [.no] [0, 1, 5] [] (P := True) (l' := [(0, sV .i64 a n), (1, sV .i64 b m), (5, nV)]) (g' := []) (nx' := 0) (by kernel_rfl) trivial ?_
  refine AW.seq ?_
  refine AW.rgs [.no, .no, .no] [1, 5, 8, 9, 10] [] (P := True) (l' := [(1, sV .i64 b m), (5, nV), (8, sV .i64 a n), (9, iV ↑n), (10, iV 0)]) (g' := []) (nx' := 0) (by kernel_rfl) trivial ?_
  refine AW.block ?_
  refine AW.adoptS 5 1 3 rfl ?_
  refine AW.loopE 0 hcx (fun (x : {x : Nat × Nat × List Int // match x with | (i, k, o) => (i ≤ n ∧ k ≤ i) ∧ (CO a b m i o) ∧ (List.length o = k)}) => match x with | ⟨(i, k, o), _⟩ => (⟨[(1, sV .i64 b m), (5, oV 1 0 k 1), (8, sV .i64 a n), (9, iV ((n : Nat) : Int)), (10, iV ((i : Nat) : Int))], [(1, some (3, .ds (dI .i64 o)))], 2⟩ : ES)) (fun (x : {x : Nat × Nat × List Int // match x with | (i, k, o) => (i ≤ n ∧ k ≤ i) ∧ (CO a b m i o) ∧ (List.length o = k)}) => match x with | ⟨(i, k, o), _⟩ => n - i) ⟨((0 : Nat), (0 : Nat), (([] : List Int) : List Int)), (show ((0 : Nat) ≤ n ∧ (0 : Nat) ≤ (0 : Nat)) ∧ (CO a b m (0 : Nat) ([] : List Int)) ∧ (List.length ([] : List Int) = (0 : Nat)) from ⟨(by first | omega | assumption | simp), (CO.zero a b m), rfl⟩)⟩ [(1, 0)] (P := (((dI .i64 b) : List D) = (dI .i64 b)) ∧ ((m : Nat) = m) ∧ ((0 : Nat) = 0) ∧ ((0 : Nat) = 0) ∧ (((dI .i64 a) : List D) = (dI .i64 a)) ∧ ((n : Nat) = n) ∧ ((((n : Nat) : Int) : Int) = ((n : Nat) : Int)) ∧ ((0 : Int) = 0) ∧ (((dI .i64 ([] : List Int)) : List D) = ([] : List D))) (by kernel_rfl) ⟨rfl, rfl, rfl, rfl, rfl, rfl, rfl, rfl, (by first | rfl | with_reducible assumption)⟩ ?_
  rintro ⟨⟨i, k, o⟩, hinv0⟩
  obtain ⟨hi, hC, ho⟩ : (i ≤ n ∧ k ≤ i) ∧ (CO a b m i o) ∧ (List.length o = k) := hinv0
  refine AW.es (l := [(1, sV .i64 b m), (5, oV 1 0 k 1), (8, sV .i64 a n), (9, iV ((n : Nat) : Int)), (10, iV ((i : Nat) : Int))]) (g := [(1, some (3, .ds (dI .i64 o)))]) (nx := 2) rfl rfl rfl ?_
  by_cases hx1 : (((i : Nat) : Int) < ((n : Nat) : Int))
  · refine AW.rgs [.b true] [1, 5, 8, 9, 10, 11] [1] (P := ((((i : Nat) : Int) < ((n : Nat) : Int)))) (l' := [(1, sV .i64 b m), (5, oV 1 0 k 1), (8, sV .i64 a n), (9, iV ↑n), (10, iV ↑i), (11, bV true)]) (g' := [(1, some (3, .ds (dI .i64 o)))]) (nx' := 2) (by kernel_rfl) (by omega) ?_
    refine AW.seq ?_
    refine AW.cond_t (.tmp (Look.of rfl)) ?_
    refine AW.skip ?_
    refine AW.seq ?_
    refine AW.block ?_
    refine AW.rgs [.n i, .d (D.lit (.int .i64 (List.getD a i 0))), .no] [1, 5, 7, 8, 9, 10] [1] (P := ((((i : Nat) : Int) : Int) = ((i : Nat) : Int)) ∧ (i < n) ∧ ((List.drop i (dI .i64 a))[0]? = some (D.lit (.int .i64 (List.getD a i 0))))) (l' := [(1, sV .i64 b m), (5, oV 1 0 k 1), (7, iV (List.getD a i 0)), (8, sV .i64 a n), (9, iV ↑n), (10, iV ↑i)]) (g' := [(1, some (3, .ds (dI .i64 o)))]) (nx' := 2) (by kernel_rfl) ⟨rfl, (by omega), (dI_at _ _ _ (by first | omega | (simp only [bsD_len, stD_len, stL_len, dI_len, List.length_append, List.length_cons, List.length_nil, List.length_take, List.length_drop, List.length_replicate, List.length_set, List.length_map, List.length_reverse, Nat.mul_one] <;> omega) | rfl))⟩ ?_
    by_cases hx3 : ((0 : Int) ≤ (idxK b (List.getD a i 0) m))
    · have hx4 : ((((-1) : Int) ≤ (idxK b (List.getD a i 0) m)) ∧ ((idxK b (List.getD a i 0) m) < ((m : Nat) : Int))) := idxK_rng b (List.getD a i 0) m
      refine AW.rgs [.no, .no, .call [] (iV (idxK b (List.getD a i 0) m)) [] 0 [] none, .b true] [1, 5, 7, 8, 9, 10, 17] [1] (P := (_) ∧ (((0 : Int) ≤ (idxK b (List.getD a i 0) m)))) (l' := [(1, sV .i64 b m), (5, oV 1 0 k 1), (7, iV (List.getD a i 0)), (8, sV .i64 a n), (9, iV ↑n), (10, iV ↑i), (17, bV true)]) (g' := [(1, some (3, .ds (dI .i64 o)))]) (nx' := 2) (by kernel_rfl) ⟨(V_rIndex b m (List.getD a i 0) (by omega) (by omega)), (by omega)⟩ ?_
      refine AW.cond_t (.tmp (Look.of rfl)) ?_
      refine AW.rg [.no, .no, .no, .ap none (k + 1) (dI .i64 (o ++ ([(List.getD a i 0)] : List Int))), .no] [1, 5, 8, 9, 10] [3] (P := ([iD (List.getD a i 0)].length = 1 * 1) ∧ (((dI .i64 o) : List D).length = k * 1) ∧ ((k + 1) * 8 ≤ 140737488355328) ∧ (k + 1 = (k + 1)) ∧ (((dI .i64 o) : List D) ++ [iD (List.getD a i 0)] = (dI .i64 (o ++ ([(List.getD a i 0)] : List Int))))) (l' := [(1, sV .i64 b m), (5, oV 3 0 (k + 1) 1), (8, sV .i64 a n), (9, iV ↑n), (10, iV ↑i)]) (g' := [(3, some (3, .ds (dI .i64 (o ++ ([(List.getD a i 0)] : List Int)))))]) (nx' := 4) (by kernel_rfl) ⟨(by first | omega | (simp only [bsD_len, stD_len, stL_len, dI_len, List.length_append, List.length_cons, List.length_nil, List.length_take, List.length_drop, List.length_replicate, List.length_set, List.length_map, List.length_reverse, Nat.mul_one] <;> omega) | rfl), (by first | omega | (simp only [bsD_len, stD_len, stL_len, dI_len, List.length_append, List.length_cons, List.length_nil, List.length_take, List.length_drop, List.length_replicate, List.length_set, List.length_map, List.length_reverse, Nat.mul_one] <;> omega) | rfl), (by omega), (by omega), (dI_app .i64 o ([(List.getD a i 0)] : List Int))⟩ ?_
      refine AW.rg [.w, .no] [1, 5, 8, 9, 10] [3] (P := ((-9223372036854775808) ≤ (((i : Nat) : Int) + 1) ∧ (((i : Nat) : Int) + 1) ≤ 9223372036854775807)) (l' := [(1, sV .i64 b m), (5, oV 3 0 (k + 1) 1), (8, sV .i64 a n), (9, iV ↑n), (10, iV (↑i + 1))]) (g' := [(3, some (3, .ds (dI .i64 (o ++ ([(List.getD a i 0)] : List Int)))))]) (nx' := 4) (by kernel_rfl) ⟨by omega, by omega⟩ ?_
      exact Rd.of ⟨(((i + 1) : Nat), ((k + 1) : Nat), ((o ++ ([(List.getD a i 0)] : List Int)) : List Int)), (show ((i + 1) ≤ n ∧ (k + 1) ≤ (i + 1)) ∧ (CO a b m (i + 1) (o ++ ([(List.getD a i 0)] : List Int))) ∧ (List.length (o ++ ([(List.getD a i 0)] : List Int)) = (k + 1)) from ⟨(by first | omega | assumption | simp), (by first | exact hC.y (by omega) rfl (by omega) | exact hC.n (by omega) (by omega)), (by first | assumption | (simp only [bsD_len, stD_len, stL_len, List.length_append, List.length_cons, List.length_nil] <;> omega))⟩)⟩ [(1, 3)] (P := (((dI .i64 b) : List D) = (dI .i64 b)) ∧ ((m : Nat) = m) ∧ ((0 : Nat) = 0) ∧ (((k + 1) : Nat) = (k + 1)) ∧ (((dI .i64 a) : List D) = (dI .i64 a)) ∧ ((n : Nat) = n) ∧ ((((n : Nat) : Int) : Int) = ((n : Nat) : Int)) ∧ (((((i + 1) : Nat) : Int) : Int) = (((i : Nat) : Int) + 1)) ∧ (((dI .i64 (o ++ ([(List.getD a i 0)] : List Int))) : List D) = (dI .i64 (o ++ ([(List.getD a i 0)] : List Int))))) (by kernel_rfl) ⟨rfl, rfl, rfl, rfl, rfl, rfl, rfl, (by first | rfl | omega | assumption | (simp; done) | (simp; omega)), rfl⟩ (show n - (i + 1) < n - i from (by first | omega | (show _ < _; simp; omega)))
    · have hx5 : ((((-1) : Int) ≤ (idxK b (List.getD a i 0) m)) ∧ ((idxK b (List.getD a i 0) m) < ((m : Nat) : Int))) := idxK_rng b (List.getD a i 0) m
      refine AW.rgs [.no, .no, .call [] (iV (idxK b (List.getD a i 0) m)) [] 0 [] none, .b false] [1, 5, 7, 8, 9, 10, 17] [1] (P := (_) ∧ (¬ ((0 : Int) ≤ (idxK b (List.getD a i 0) m)))) (l' := [(1, sV .i64 b m), (5, oV 1 0 k 1), (7, iV (List.getD a i 0)), (8, sV .i64 a n), (9, iV ↑n), (10, iV ↑i), (17, bV false)]) (g' := [(1, some (3, .ds (dI .i64 o)))]) (nx' := 2) (by kernel_rfl) ⟨(V_rIndex b m (List.getD a i 0) (by omega) (by omega)), (by omega)⟩ ?_
      refine AW.cond_f (.tmp (Look.of rfl)) ?_
      refine AW.skip ?_
      refine AW.rg [.w, .no] [1, 5, 8, 9, 10] [1] (P := ((-9223372036854775808) ≤ (((i : Nat) : Int) + 1) ∧ (((i : Nat) : Int) + 1) ≤ 9223372036854775807)) (l' := [(1, sV .i64 b m), (5, oV 1 0 k 1), (8, sV .i64 a n), (9, iV ↑n), (10, iV (↑i + 1))]) (g' := [(1, some (3, .ds (dI .i64 o)))]) (nx' := 2) (by kernel_rfl) ⟨by omega, by omega⟩ ?_
      exact Rd.of ⟨(((i + 1) : Nat), (k : Nat), (o : List Int)), (show ((i + 1) ≤ n ∧ k ≤ (i + 1)) ∧ (CO a b m (i + 1) o) ∧ (List.length o = k) from ⟨(by first | omega | assumption | simp), (by first | exact hC.y (by omega) rfl (by omega) | exact hC.n (by omega) (by omega)), (by first | assumption | (simp only [bsD_len, stD_len, stL_len, List.length_append, List.length_cons, List.length_nil] <;> omega))⟩)⟩ [] (P := (((dI .i64 b) : List D) = (dI .i64 b)) ∧ ((m : Nat) = m) ∧ ((0 : Nat) = 0) ∧ ((k : Nat) = k) ∧ (((dI .i64 a) : List D) = (dI .i64 a)) ∧ ((n : Nat) = n) ∧ ((((n : Nat) : Int) : Int) = ((n : Nat) : Int)) ∧ (((((i + 1) : Nat) : Int) : Int) = (((i : Nat) : Int) + 1)) ∧ (((dI .i64 o) : List D) = (dI .i64 o))) (by kernel_rfl) ⟨rfl, rfl, rfl, rfl, rfl, rfl, rfl, (by first | rfl | omega | assumption | (simp; done) | (simp; omega)), rfl⟩ (show n - (i + 1) < n - i from (by first | omega | (show _ < _; simp; omega)))
  · refine AW.rgs [.b false] [1, 5, 8, 9, 10, 11] [1] (P := (¬ (((i : Nat) : Int) < ((n : Nat) : Int)))) (l' := [(1, sV .i64 b m), (5, oV 1 0 k 1), (8, sV .i64 a n), (9, iV ↑n), (10, iV ↑i), (11, bV false)]) (g' := [(1, some (3, .ds (dI .i64 o)))]) (nx' := 2) (by kernel_rfl) (by omega) ?_
    refine AW.seq ?_
    refine AW.cond_f (.tmp (Look.of rfl)) ?_
    refine AW.exit ?_
    refine AW.rgs [.no, .no] [4] [1] (P := True) (l' := [(4, oV 1 0 k 1)]) (g' := [(1, some (3, .ds (dI .i64 o)))]) (nx' := 2) (by kernel_rfl) trivial ?_
    have hz1 : o = coL a b m := hC.fin (by omega)
    have hz2 : List.length (coL a b m) = k := by rw [← hz1]; omega
    refine AW.freeze 1 (l' := [(4, sV .i64 o k)]) (g' := []) rfl (FzS.cons rfl (.e (.c (@FzC.own 1 ((dI .i64 o) : List D) 0 k 1 true ((dI .i64 o) : List D) (by rw [List.drop_zero, Nat.mul_one, List.take_of_length_le (by first | omega | (simp only [bsD_len, stD_len, stL_len, dI_len, List.length_append, List.length_cons, List.length_nil, List.length_take, List.length_drop, List.length_replicate, List.length_set, List.length_map, List.length_reverse, Nat.mul_one] <;> omega))]) (by first | omega | (simp only [bsD_len, stD_len, stL_len, dI_len, List.length_append, List.length_cons, List.length_nil, List.length_take, List.length_drop, List.length_replicate, List.length_set, List.length_map, List.length_reverse, Nat.mul_one] <;> omega) | rfl)))) FzS.nil) FzG.nil ?_
    refine AW.ret ?_
    exact EndP.of (.inr rfl) [] (P := (((dI .i64 (coL a b m)) : List D) = (dI .i64 o)) ∧ (((List.length (coL a b m)) : Nat) = k)) (by kernel_rfl) ⟨(by first | rfl | exact congrArg _ hz1.symm), (by first | omega | rfl | assumption | (simp; done) | (simp; omega))⟩

set_option maxHeartbeats 4000000 in
set_option maxRecDepth 100000 in
theorem V_sEqual (a b : List Int) (n m : Nat) (hn : List.length a = n) (hm : List.length b = m) (h2 : n ≤ 1000000) (h3 : m ≤ 1000000) : Fun 55 [.c (.d (D.sl (dI .i64 a) n)), .c (.d (D.sl (dI .i64 b) m))] (toG []) 0 (.e (.c (.d (D.lit (.bool (sqB a b)))))) (toG []) 0 := by
  refine Fun.mk (n := 26) Tryd.func55 rfl rfl (Nat.le_of_ble_eq_true rfl) ?_
  intro cx hcx
  refine AW.rgs [.no] [0, 1] [] (P := True) (l' := [(0, sV .i64 a n), (1, sV .i64 b m)]) (g' := []) (nx' := 0) (by kernel_rfl) trivial ?_
  refine AW.seq ?_
  by_cases hx1 : (((n : Nat) : Int) ≠ ((m : Nat) : Int))
  · refine AW.rgs [.no, .no, .no, .no, .b true] [0, 1, 10] [] (P := ((((n : Nat) : Int) ≠ ((m : Nat) : Int)))) (l' := [(0, sV .i64 a n), (1, sV .i64 b m), (10, bV true)]) (g' := []) (nx' := 0) (by kernel_rfl) (by omega) ?_
    refine AW.cond_t (.tmp (Look.of rfl)) ?_
    refine AW.rgs [.no] [4] [] (P := True) (l' := [(4, bV false)]) (g' := []) (nx' := 0) (by kernel_rfl) trivial ?_
    refine AW.ret ?_
    exact EndP.of (.inr rfl) [] (P := ((sqB a b) = false)) (by kernel_rfl) (by first | exact sqB_l (by omega) | exact sqB_n (k := k) (by omega) | exact sqB_y (by omega) (fun j hj => ha j (by omega)))
  · refine AW.rgs [.no, .no, .no, .no, .b false] [0, 1, 10] [] (P := (¬ (((n : Nat) : Int) ≠ ((m : Nat) : Int)))) (l' := [(0, sV .i64 a n), (1, sV .i64 b m), (10, bV false)]) (g' := []) (nx' := 0) (by kernel_rfl) (by omega) ?_
    refine AW.cond_f (.tmp (Look.of rfl)) ?_
    refine AW.skip ?_
    refine AW.seq ?_
    refine AW.rgs [.no, .no, .no] [0, 1, 12, 13] [] (P := True) (l' := [(0, sV .i64 a n), (1, sV .i64 b m), (12, iV ↑n), (13, iV 0)]) (g' := []) (nx' := 0) (by kernel_rfl) trivial ?_
    refine AW.block ?_
    refine AW.loopE 0 hcx (fun (x : {x : Nat // match x with | k => (k ≤ n) ∧ (∀ j, j < k → List.getD a j 0 = List.getD b j 0)}) => match x with | ⟨k, _⟩ => (⟨[(0, sV .i64 a n), (1, sV .i64 b m), (12, iV ((n : Nat) : Int)), (13, iV ((k : Nat) : Int))], [], 0⟩ : ES)) (fun (x : {x : Nat // match x with | k => (k ≤ n) ∧ (∀ j, j < k → List.getD a j 0 = List.getD b j 0)}) => match x with | ⟨k, _⟩ => n - k) ⟨(0 : Nat), (show ((0 : Nat) ≤ n) ∧ (∀ j, j < (0 : Nat) → List.getD a j 0 = List.getD b j 0) from ⟨(by first | omega | assumption | simp), (fun j hj => absurd hj (Nat.not_lt_zero j))⟩)⟩ [] (P := (((dI .i64 a) : List D) = (dI .i64 a)) ∧ ((n : Nat) = n) ∧ (((dI .i64 b) : List D) = (dI .i64 b)) ∧ ((m : Nat) = m) ∧ ((((n : Nat) : Int) : Int) = ((n : Nat) : Int)) ∧ ((0 : Int) = 0)) (by kernel_rfl) ⟨rfl, rfl, rfl, rfl, rfl, rfl⟩ ?_
    rintro ⟨k, hinv0⟩
    obtain ⟨hk, ha⟩ : (k ≤ n) ∧ (∀ j, j < k → List.getD a j 0 = List.getD b j 0) := hinv0
    refine AW.es (l := [(0, sV .i64 a n), (1, sV .i64 b m), (12, iV ((n : Nat) : Int)), (13, iV ((k : Nat) : Int))]) (g := []) (nx := 0) rfl rfl rfl ?_
    by_cases hx2 : (((k : Nat) : Int) < ((n : Nat) : Int))
    · refine AW.rgs [.b true] [0, 1, 12, 13, 14] [] (P := ((((k : Nat) : Int) < ((n : Nat) : Int)))) (l' := [(0, sV .i64 a n), (1, sV .i64 b m), (12, iV ↑n), (13, iV ↑k), (14, bV true)]) (g' := []) (nx' := 0) (by kernel_rfl) (by omega) ?_
      refine AW.seq ?_
      refine AW.cond_t (.tmp (Look.of rfl)) ?_
      refine AW.skip ?_
      refine AW.seq ?_
      refine AW.block ?_
      refine AW.rgs [.no, .no] [0, 1, 5, 12, 13] [] (P := True) (l' := [(0, sV .i64 a n), (1, sV .i64 b m), (5, iV ↑k), (12, iV ↑n), (13, iV ↑k)]) (g' := []) (nx' := 0) (by kernel_rfl) trivial ?_
      by_cases hx3 : ((List.getD a k 0) ≠ (List.getD b k 0))
      · refine AW.rgs [.no, .no, .n k, .d (D.lit (.int .i64 (List.getD a k 0))), .no, .no, .n k, .d (D.lit (.int .i64 (List.getD b k 0))), .b true] [0, 1, 12, 13, 24] [] (P := ((((k : Nat) : Int) : Int) = ((k : Nat) : Int)) ∧ (k < n) ∧ ((List.drop k (dI .i64 a))[0]? = some (D.lit (.int .i64 (List.getD a k 0)))) ∧ ((((k : Nat) : Int) : Int) = ((k : Nat) : Int)) ∧ (k < m) ∧ ((List.drop k (dI .i64 b))[0]? = some (D.lit (.int .i64 (List.getD b k 0)))) ∧ (((List.getD a k 0) ≠ (List.getD b k 0)))) (l' := [(0, sV .i64 a n), (1, sV .i64 b m), (12, iV ↑n), (13, iV ↑k), (24, bV true)]) (g' := []) (nx' := 0) (by kernel_rfl) ⟨rfl, (by omega), (dI_at _ _ _ (by first | omega | (simp only [bsD_len, stD_len, stL_len, dI_len, List.length_append, List.length_cons, List.length_nil, List.length_take, List.length_drop, List.length_replicate, List.length_set, List.length_map, List.length_reverse, Nat.mul_one] <;> omega) | rfl)), rfl, (by omega), (dI_at _ _ _ (by first | omega | (simp only [bsD_len, stD_len, stL_len, dI_len, List.length_append, List.length_cons, List.length_nil, List.length_take, List.length_drop, List.length_replicate, List.length_set, List.length_map, List.length_reverse, Nat.mul_one] <;> omega) | rfl)), (by omega)⟩ ?_
        refine AW.cond_t (.tmp (Look.of rfl)) ?_
        refine AW.rgs [.no] [4] [] (P := True) (l' := [(4, bV false)]) (g' := []) (nx' := 0) (by kernel_rfl) trivial ?_
        refine AW.ret ?_
        exact EndP.of (.inr rfl) [] (P := ((sqB a b) = false)) (by kernel_rfl) (by first | exact sqB_l (by omega) | exact sqB_n (k := k) (by omega) | exact sqB_y (by omega) (fun j hj => ha j (by omega)))
      · refine AW.rgs [.no, .no, .n k, .d (D.lit (.int .i64 (List.getD a k 0))), .no, .no, .n k, .d (D.lit (.int .i64 (List.getD b k 0))), .b false] [0, 1, 12, 13, 24] [] (P := ((((k : Nat) : Int) : Int) = ((k : Nat) : Int)) ∧ (k < n) ∧ ((List.drop k (dI .i64 a))[0]? = some (D.lit (.int .i64 (List.getD a k 0)))) ∧ ((((k : Nat) : Int) : Int) = ((k : Nat) : Int)) ∧ (k < m) ∧ ((List.drop k (dI .i64 b))[0]? = some (D.lit (.int .i64 (List.getD b k 0)))) ∧ (¬ ((List.getD a k 0) ≠ (List.getD b k 0)))) (l' := [(0, sV .i64 a n), (1, sV .i64 b m), (12, iV ↑n), (13, iV ↑k), (24, bV false)]) (g' := []) (nx' := 0) (by kernel_rfl) ⟨rfl, (by omega), (dI_at _ _ _ (by first | omega | (simp only [bsD_len, stD_len, stL_len, dI_len, List.length_append, List.length_cons, List.length_nil, List.length_take, List.length_drop, List.length_replicate, List.length_set, List.length_map, List.length_reverse, Nat.mul_one] <;> omega) | rfl)), rfl, (by omega), (dI_at _ _ _ (by first | omega | (simp only [bsD_len, stD_len, stL_len, dI_len, List.length_append, List.length_cons, List.length_nil, List.length_take, List.length_drop, List.length_replicate, List.length_set, List.length_map, List.length_reverse, Nat.mul_one] <;> omega) | rfl)), (by omega)⟩ ?_
        refine AW.cond_f (.tmp (Look.of rfl)) ?_
        refine AW.skip ?_
        refine AW.rg [.w, .no] [0, 1, 12, 13] [] (P := ((-9223372036854775808) ≤ (((k : Nat) : Int) + 1) ∧ (((k : Nat) : Int) + 1) ≤ 9223372036854775807)) (l' := [(0, sV .i64 a n), (1, sV .i64 b m), (12, iV ↑n), (13, iV (↑k + 1))]) (g' := []) (nx' := 0) (by kernel_rfl) ⟨by omega, by omega⟩ ?_
        exact Rd.of ⟨((k + 1) : Nat), (show ((k + 1) ≤ n) ∧ (∀ j, j < (k + 1) → List.getD a j 0 = List.getD b j 0) from ⟨(by first | omega | assumption | simp), (fun j hj => (Nat.lt_succ_iff_lt_or_eq.1 hj).elim (ha j) (fun e9 => by subst e9; omega))⟩)⟩ [] (P := (((dI .i64 a) : List D) = (dI .i64 a)) ∧ ((n : Nat) = n) ∧ (((dI .i64 b) : List D) = (dI .i64 b)) ∧ ((m : Nat) = m) ∧ ((((n : Nat) : Int) : Int) = ((n : Nat) : Int)) ∧ (((((k + 1) : Nat) : Int) : Int) = (((k : Nat) : Int) + 1))) (by kernel_rfl) ⟨rfl, rfl, rfl, rfl, rfl, (by first | rfl | omega | assumption | (simp; done) | (simp; omega))⟩ (show n - (k + 1) < n - k from (by first | omega | (show _ < _; simp; omega)))
    · refine AW.rgs [.b false] [0, 1, 12, 13, 14] [] (P := (¬ (((k : Nat) : Int) < ((n : Nat) : Int)))) (l' := [(0, sV .i64 a n), (1, sV .i64 b m), (12, iV ↑n), (13, iV ↑k), (14, bV false)]) (g' := []) (nx' := 0) (by kernel_rfl) (by omega) ?_
      refine AW.seq ?_
      refine AW.cond_f (.tmp (Look.of rfl)) ?_
      refine AW.exit ?_
      refine AW.rgs [.no] [4] [] (P := True) (l' := [(4, bV true)]) (g' := []) (nx' := 0) (by kernel_rfl) trivial ?_
      refine AW.ret ?_
      exact EndP.of (.inr rfl) [] (P := ((sqB a b) = true)) (by kernel_rfl) (by first | exact sqB_l (by omega) | exact sqB_n (k := k) (by omega) | exact sqB_y (by omega) (fun j hj => ha j (by omega)))

set_option maxHeartbeats 4000000 in
set_option maxRecDepth 100000 in
theorem V_rSame (a b : List Int) (n m : Nat) (hn : List.length a = n) (hm : List.length b = m) (h2 : n ≤ 1000000) (h3 : m ≤ 1000000) : Fun 23 [.c (.d (D.sl (dI .i64 a) n)), .c (.d (D.sl (dI .i64 b) m))] (toG []) 0 (.e (.c (.d (D.lit (.bool (sqB a b)))))) (toG []) 0 := by
  refine Fun.mk (n := 26) Tryd.func23 rfl rfl (Nat.le_of_ble_eq_true rfl) ?_
  intro cx hcx
  refine AW.rgs [.no] [0, 1] [] (P := True) (l' := [(0, sV .i64 a n), (1, sV .i64 b m)]) (g' := []) (nx' := 0) (by kernel_rfl) trivial ?_
  refine AW.seq ?_
  by_cases hx1 : (((n : Nat) : Int) ≠ ((m : Nat) : Int))
  · refine AW.rgs [.no, .no, .no, .no, .b true] [0, 1, 10] [] (P := ((((n : Nat) : Int) ≠ ((m : Nat) : Int)))) (l' := [(0, sV .i64 a n), (1, sV .i64 b m), (10, bV true)]) (g' := []) (nx' := 0) (by kernel_rfl) (by omega) ?_
    refine AW.cond_t (.tmp (Look.of rfl)) ?_
    refine AW.rgs [.no] [4] [] (P := True) (l' := [(4, bV false)]) (g' := []) (nx' := 0) (by kernel_rfl) trivial ?_
    refine AW.ret ?_
    exact EndP.of (.inr rfl) [] (P := ((sqB a b) = false)) (by kernel_rfl) (by first | exact sqB_l (by omega) | exact sqB_n (k := k) (by omega) | exact sqB_y (by omega) (fun j hj => ha j (by omega)))
  · refine AW.rgs [.no, .no, .no, .no, .b false] [0, 1, 10] [] (P := (¬ (((n : Nat) : Int) ≠ ((m : Nat) : Int)))) (l' := [(0, sV .i64 a n), (1, sV .i64 b m), (10, bV false)]) (g' := []) (nx' := 0) (by kernel_rfl) (by omega) ?_
    refine AW.cond_f (.tmp (Look.of rfl)) ?_
    refine AW.skip ?_
    refine AW.seq ?_
    refine AW.rgs [.no, .no, .no] [0, 1, 12, 13] [] (P := True) (l' := [(0, sV .i64 a n), (1, sV .i64 b m), (12, iV ↑n), (13, iV 0)]) (g' := []) (nx' := 0) (by kernel_rfl) trivial ?_
    refine AW.block ?_
    refine AW.loopE 0 hcx (fun (x : {x : Nat // match x with | k => (k ≤ n) ∧ (∀ j, j < k → List.getD a j 0 = List.getD b j 0)}) => match x with | ⟨k, _⟩ => (⟨[(0, sV .i64 a n), (1, sV .i64 b m), (12, iV ((n : Nat) : Int)), (13, iV ((k : Nat) : Int))], [], 0⟩ : ES)) (fun (x : {x : Nat // match x with | k => (k ≤ n) ∧ (∀ j, j < k → List.getD a j 0 = List.getD b j 0)}) => match x with | ⟨k, _⟩ => n - k) ⟨(0 : Nat), (show ((0 : Nat) ≤ n) ∧ (∀ j, j < (0 : Nat) → List.getD a j 0 = List.getD b j 0) from ⟨(by first | omega | assumption | simp), (fun j hj => absurd hj (Nat.not_lt_zero j))⟩)⟩ [] (P := (((dI .i64 a) : List D) = (dI .i64 a)) ∧ ((n : Nat) = n) ∧ (((dI .i64 b) : List D) = (dI .i64 b)) ∧ ((m : Nat) = m) ∧ ((((n : Nat) : Int) : Int) = ((n : Nat) : Int)) ∧ ((0 : Int) = 0)) (by kernel_rfl) ⟨rfl, rfl, rfl, rfl, rfl, rfl⟩ ?_
    rintro ⟨k, hinv0⟩
    obtain ⟨hk, ha⟩ : (k ≤ n) ∧ (∀ j, j < k → List.getD a j 0 = List.getD b j 0) := hinv0
    refine AW.es (l := [(0, sV .i64 a n), (1, sV .i64 b m), (12, iV ((n : Nat) : Int)), (13, iV ((k : Nat) : Int))]) (g := []) (nx := 0) rfl rfl rfl ?_
    by_cases hx2 : (((k : Nat) : Int) < ((n : Nat) : Int))
    · refine AW.rgs [.b true] [0, 1, 12, 13, 14] [] (P := ((((k : Nat) : Int) < ((n : Nat) : Int)))) (l' := [(0, sV .i64 a n), (1, sV .i64 b m), (12, iV ↑n), (13, iV ↑k), (14, bV true)]) (g' := []) (nx' := 0) (by kernel_rfl) (by omega) ?_
      refine AW.seq ?_
      refine AW.cond_t (.tmp (Look.of rfl)) ?_
      refine AW.skip ?_
      refine AW.seq ?_
      refine AW.block ?_
      refine AW.rgs [.no, .no] [0, 1, 5, 12, 13] [] (P := True) (l' := [(0, sV .i64 a n), (1, sV .i64 b m), (5, iV ↑k), (12, iV ↑n), (13, iV ↑k)]) (g' := []) (nx' := 0) (by kernel_rfl) trivial ?_
      by_cases hx3 : ((List.getD a k 0) ≠ (List.getD b k 0))
      · refine AW.rgs [.no, .no, .n k, .d (D.lit (.int .i64 (List.getD a k 0))), .no, .no, .n k, .d (D.lit (.int .i64 (List.getD b k 0))), .b true] [0, 1, 12, 13, 24] [] (P := ((((k : Nat) : Int) : Int) = ((k : Nat) : Int)) ∧ (k < n) ∧ ((List.drop k (dI .i64 a))[0]? = some (D.lit (.int .i64 (List.getD a k 0)))) ∧ ((((k : Nat) : Int) : Int) = ((k : Nat) : Int)) ∧ (k < m) ∧ ((List.drop k (dI .i64 b))[0]? = some (D.lit (.int .i64 (List.getD b k 0)))) ∧ (((List.getD a k 0) ≠ (List.getD b k 0)))) (l' := [(0, sV .i64 a n), (1, sV .i64 b m), (12, iV ↑n), (13, iV ↑k), (24, bV true)]) (g' := []) (nx' := 0) (by kernel_rfl) ⟨rfl, (by omega), (dI_at _ _ _ (by first | omega | (simp only [bsD_len, stD_len, stL_len, dI_len, List.length_append, List.length_cons, List.length_nil, List.length_take, List.length_drop, List.length_replicate, List.length_set, List.length_map, List.length_reverse, Nat.mul_one] <;> omega) | rfl)), rfl, (by omega), (dI_at _ _ _ (by first | omega | (simp only [bsD_len, stD_len, stL_len, dI_len, List.length_append, List.length_cons, List.length_nil, List.length_take, List.length_drop, List.length_replicate, List.length_set, List.length_map, List.length_reverse, Nat.mul_one] <;> omega) | rfl)), (by omega)⟩ ?_
        refine AW.cond_t (.tmp (Look.of rfl)) ?_
        refine AW.rgs [.no] [4] [] (P := True) (l' := [(4, bV false)]) (g' := []) (nx' := 0) (by kernel_rfl) trivial ?_
        refine AW.ret ?_
        exact EndP.of (.inr rfl) [] (P := ((sqB a b) = false)) (by kernel_rfl) (by first | exact sqB_l (by omega) | exact sqB_n (k := k) (by omega) | exact sqB_y (by omega) (fun j hj => ha j (by omega)))
      · refine AW.rgs [.no, .no, .n k, .d (D.lit (.int .i64 (List.getD a k 0))), .no, .no, .n k, .d (D.lit (.int .i64 (List.getD b k 0))), .b false] [0, 1, 12, 13, 24] [] (P := ((((k : Nat) : Int) : Int) = ((k : Nat) : Int)) ∧ (k < n) ∧ ((List.drop k (dI .i64 a))[0]? = some (D.lit (.int .i64 (List.getD a k 0)))) ∧ ((((k : Nat) : Int) : Int) = ((k : Nat) : Int)) ∧ (k < m) ∧ ((List.drop k (dI .i64 b))[0]? = some (D.lit (.int .i64 (List.getD b k 0)))) ∧ (¬ ((List.getD a k 0) ≠ (List.getD b k 0)))) (l' := [(0, sV .i64 a n), (1, sV .i64 b m), (12, iV ↑n), (13, iV ↑k), (24, bV false)]) (g' := []) (nx' := 0) (by kernel_rfl) ⟨rfl, (by omega), (dI_at _ _ _ (by first | omega | (simp only [bsD_len, stD_len, stL_len, dI_len, List.length_append, List.length_cons, List.length_nil, List.length_take, List.length_drop, List.length_replicate, List.length_set, List.length_map, List.length_reverse, Nat.mul_one] <;> omega) | rfl)), rfl, (by omega), (dI_at _ _ _ (by first | omega | (simp only [bsD_len, stD_len, stL_len, dI_len, List.length_append, List.length_cons, List.length_nil, List.length_take, List.length_drop, List.length_replicate, List.length_set, List.length_map, List.length_reverse, Nat.mul_one] <;> omega) | rfl)), (by omega)⟩ ?_
        refine AW.cond_f (.tmp (Look.of rfl)) ?_
        refine AW.skip ?_
        refine AW.rg [.w, .no] [0, 1, 12, 13] [] (P := ((-9223372036854775808) ≤ (((k : Nat) : Int) + 1) ∧ (((k : Nat) : Int) + 1) ≤ 9223372036854775807)) (l' := [(0, sV .i64 a n), (1, sV .i64 b m), (12, iV ↑n), (13, iV (↑k + 1))]) (g' := []) (nx' := 0) (by kernel_rfl) ⟨by omega, by omega⟩ ?_
        exact Rd.of ⟨((k + 1) : Nat), (show ((k + 1) ≤ n) ∧ (∀ j, j < (k + 1) → List.getD a j 0 = List.getD b j 0) from ⟨(by first | omega | assumption | simp), (fun j hj => (Nat.lt_succ_iff_lt_or_eq.1 hj).elim (ha j) (fun e9 => by subst e9; omega))⟩)⟩ [] (P := (((dI .i64 a) : List D) = (dI .i64 a)) ∧ ((n : Nat) = n) ∧ (((dI .i64 b) : List D) = (dI .i64 b)) ∧ ((m : Nat) = m) ∧ ((((n : Nat) : Int) : Int) = ((n : Nat) : Int)) ∧ (((((k + 1) : Nat) : Int) : Int) = (((k : Nat) : Int) + 1))) (by kernel_rfl) ⟨rfl, rfl, rfl, rfl, rfl, (by first | rfl | omega | assumption | (simp; done) | (simp; omega))⟩ (show n - (k + 1) < n - k from (by first | omega | (show _ < _; simp; omega)))
    · refine AW.rgs [.b false] [0, 1, 12, 13, 14] [] (P := (¬ (((k : Nat) : Int) < ((n : Nat) : Int)))) (l' := [(0, sV .i64 a n), (1, sV .i64 b m), (12, iV ↑n), (13, iV ↑k), (14, bV false)]) (g' := []) (nx' := 0) (by kernel_rfl) (by omega) ?_
      refine AW.seq ?_
      refine AW.cond_f (.tmp (Look.of rfl)) ?_
      refine AW.exit ?_
      refine AW.rgs [.no] [4] [] (P := True) (l' := [(4, bV true)]) (g' := []) (nx' := 0) (by kernel_rfl) trivial ?_
      refine AW.ret ?_
      exact EndP.of (.inr rfl) [] (P := ((sqB a b) = true)) (by kernel_rfl) (by first | exact sqB_l (by omega) | exact sqB_n (k := k) (by omega) | exact sqB_y (by omega) (fun j hj => ha j (by omega)))

set_option maxHeartbeats 4000000 in
set_option maxRecDepth 100000 in
theorem V_Same (a b : List Int) (n m : Nat) (hn : List.length a = n) (hm : List.length b = m) (h2 : n ≤ 1000000) (h3 : m ≤ 1000000) : Fun 32 [.c (.d (D.sl (dI .i64 a) n)), .c (.d (D.sl (dI .i64 b) m))] (toG []) 0 (.e (.c (.d (D.lit (.bool (sqB a b)))))) (toG []) 0 := by
  refine Fun.mk (n := 8) Tryd.func32 rfl rfl (Nat.le_of_ble_eq_true rfl) ?_
  intro cx hcx
  refine AW.rgs [.no] [0, 1] [] (P := True) (l' := [(0, sV .i64 a n), (1, sV .i64 b m)]) (g' := []) (nx' := 0) (by kernel_rfl) trivial ?_
  rcases Bool.eq_false_or_eq_true (sqB a b) with hx1 | hx1
  · refine AW.rgs [.no, .no, .call [] (bV true) [] 0 [] none, .no] [4] [] (P := (Fun 55 [.c (.d (D.sl (dI .i64 a) n)), .c (.d (D.sl (dI .i64 b) m))] (toG []) 0 (bV true) (toG []) 0)) (l' := [(4, bV true)]) (g' := []) (nx' := 0) (by kernel_rfl) (by have h0 := (V_sEqual a b n m (by omega) (by omega) (by omega) (by omega)); rw [hx1] at h0; exact h0) ?_
    refine AW.ret ?_
    exact EndP.of (.inr rfl) [] (P := ((sqB a b) = true)) (by kernel_rfl) (by first | rfl | assumption | exact decide_eq_true (by omega) | exact decide_eq_false (by omega) | (simp; omega))
  · refine AW.rgs [.no, .no, .call [] (bV false) [] 0 [] none, .no] [4] [] (P := (Fun 55 [.c (.d (D.sl (dI .i64 a) n)), .c (.d (D.sl (dI .i64 b) m))] (toG []) 0 (bV false) (toG []) 0)) (l' := [(4, bV false)]) (g' := []) (nx' := 0) (by kernel_rfl) (by have h0 := (V_sEqual a b n m (by omega) (by omega) (by omega) (by omega)); rw [hx1] at h0; exact h0) ?_
    refine AW.ret ?_
    exact EndP.of (.inr rfl) [] (P := ((sqB a b) = false)) (by kernel_rfl) (by first | rfl | assumption | exact decide_eq_true (by omega) | exact decide_eq_false (by omega) | (simp; omega))

end Go.Proofs.YtcmldnahohmieaaDoor
