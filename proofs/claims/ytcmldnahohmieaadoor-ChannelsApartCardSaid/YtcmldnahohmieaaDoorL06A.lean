/- Places, valid maps, names. No statement is proved here. -/
import Derived.Test.YtcmldnahohmieaaDoorW06S
import Derived.Test.YtcmldnahohmieaaDoorLBd
namespace Go.Proofs.YtcmldnahohmieaaDoor
open Go.ChangeShapes Go.WideShapes Go.ChangeAt Go.RowKit
set_option linter.unusedVariables false
set_option linter.unusedSimpArgs false

theorem byte_at {l : List Int} (h : ∀ j, j < l.length → 0 ≤ List.getD l j 0 ∧ List.getD l j 0 ≤ 255) {k : Nat} (hk : k < l.length) : strAt (strOfNums l) (k : Int) = some (List.getD l k 0) := by
  have h9 := h k hk
  unfold strAt
  rw [if_pos (by omega), strOfNums_data, Int.toNat_natCast, List.getElem?_map, List.getElem?_eq_getElem hk]
  rw [List.getD_eq_getElem?_getD, List.getElem?_eq_getElem hk, Option.getD_some] at *
  simp only [Option.map_some, UInt8.toNat_ofNat', Option.some.injEq]
  omega
theorem str_0 {l : List Int} (h : l.length = 0) : (ByteArray.toList (strOfNums l) == ByteArray.toList (ByteArray.mk #[])) = true := by
  have : l = [] := List.length_eq_zero_iff.1 h
  subst this; rw [ByteArray.toList_eq, ByteArray.toList_eq]; rfl
theorem str_n0 {l : List Int} (h : ¬ l.length = 0) : (ByteArray.toList (strOfNums l) == ByteArray.toList (ByteArray.mk #[])) = false := by
  rw [beq_eq_false_iff_ne]
  intro e
  have e2 := congrArg List.length e
  rw [ByteArray.toList_eq, ByteArray.toList_eq, strOfNums_data, List.length_map] at e2
  exact h (by rw [e2]; rfl)

theorem nm_ld {p : Int} (h : 1 ≤ p ∧ p ≤ 8) {n : Nat} (hn : p = (n : Int)) : (List.drop n (stD nmT))[0]? = some (D.lit (.string (strOfNums (pcL p)))) := by
  rw [← nm_at h hn]; exact stD_at nmT n (by show n < 9; omega)

set_option maxHeartbeats 4000000 in
set_option maxRecDepth 100000 in
theorem V_sIndex (l : List Int) (n : Nat) (v : Int) (hn : List.length l = n) (hm : n ≤ 1000000) : Fun 52 [.c (.d (D.sl (dI .i64 l) n)), iE v] (toG []) 0 (iV (idxK l v n)) (toG []) 0 := by
  refine Fun.mk (n := 19) Tryd.func52 rfl rfl (Nat.le_of_ble_eq_true rfl) ?_
  intro cx hcx
  refine AW.rgs [.no] [0, 1] [] (P := True) (l' := [(0, sV .i64 l n), (1, iV v)]) (g' := []) (nx' := 0) (by kernel_rfl) trivial ?_
  refine AW.seq ?_
  refine AW.rgs [.no, .no, .no] [0, 1, 7, 8] [] (P := True) (l' := [(0, sV .i64 l n), (1, iV v), (7, iV ↑n), (8, iV 0)]) (g' := []) (nx' := 0) (by kernel_rfl) trivial ?_
  refine AW.block ?_
  refine AW.loopE 0 hcx (fun (x : {x : Nat // match x with | k => (k ≤ n) ∧ (idxK l v k = -1)}) => match x with | ⟨k, _⟩ => (⟨[(0, sV .i64 l n), (1, iV v), (7, iV ((n : Nat) : Int)), (8, iV ((k : Nat) : Int))], [], 0⟩ : ES)) (fun (x : {x : Nat // match x with | k => (k ≤ n) ∧ (idxK l v k = -1)}) => match x with | ⟨k, _⟩ => n - k) ⟨(0 : Nat), (show ((0 : Nat) ≤ n) ∧ (idxK l v (0 : Nat) = -1) from ⟨(by first | omega | assumption | simp), rfl⟩)⟩ [] (P := (((dI .i64 l) : List D) = (dI .i64 l)) ∧ ((n : Nat) = n) ∧ ((v : Int) = v) ∧ ((((n : Nat) : Int) : Int) = ((n : Nat) : Int)) ∧ ((0 : Int) = 0)) (by kernel_rfl) ⟨rfl, rfl, rfl, rfl, rfl⟩ ?_
  rintro ⟨k, hinv0⟩
  obtain ⟨hk, hi⟩ : (k ≤ n) ∧ (idxK l v k = -1) := hinv0
  refine AW.es (l := [(0, sV .i64 l n), (1, iV v), (7, iV ((n : Nat) : Int)), (8, iV ((k : Nat) : Int))]) (g := []) (nx := 0) rfl rfl rfl ?_
  by_cases hx1 : (((k : Nat) : Int) < ((n : Nat) : Int))
  · refine AW.rgs [.b true] [0, 1, 7, 8, 9] [] (P := ((((k : Nat) : Int) < ((n : Nat) : Int)))) (l' := [(0, sV .i64 l n), (1, iV v), (7, iV ↑n), (8, iV ↑k), (9, bV true)]) (g' := []) (nx' := 0) (by kernel_rfl) (by omega) ?_
    refine AW.seq ?_
    refine AW.cond_t (.tmp (Look.of rfl)) ?_
    refine AW.skip ?_
    refine AW.seq ?_
    refine AW.block ?_
    refine AW.rgs [.no, .no] [0, 1, 5, 7, 8] [] (P := True) (l' := [(0, sV .i64 l n), (1, iV v), (5, iV ↑k), (7, iV ↑n), (8, iV ↑k)]) (g' := []) (nx' := 0) (by kernel_rfl) trivial ?_
    by_cases hx2 : (v = (List.getD l k 0))
    · refine AW.rgs [.no, .no, .no, .n k, .d (D.lit (.int .i64 (List.getD l k 0))), .b true] [0, 1, 5, 7, 8, 16] [] (P := ((((k : Nat) : Int) : Int) = ((k : Nat) : Int)) ∧ (k < n) ∧ ((List.drop k (dI .i64 l))[0]? = some (D.lit (.int .i64 (List.getD l k 0)))) ∧ ((v = (List.getD l k 0)))) (l' := [(0, sV .i64 l n), (1, iV v), (5, iV ↑k), (7, iV ↑n), (8, iV ↑k), (16, bV true)]) (g' := []) (nx' := 0) (by kernel_rfl) ⟨rfl, (by omega), (dI_at _ _ _ (by first | omega | (simp only [bsD_len, stD_len, stL_len, dI_len, List.length_append, List.length_cons, List.length_nil, List.length_take, List.length_drop, List.length_replicate, List.length_set, List.length_map, List.length_reverse, Nat.mul_one] <;> omega) | rfl)), (by omega)⟩ ?_
      refine AW.cond_t (.tmp (Look.of rfl)) ?_
      refine AW.rgs [.no, .no] [4] [] (P := True) (l' := [(4, iV ↑k)]) (g' := []) (nx' := 0) (by kernel_rfl) trivial ?_
      refine AW.ret ?_
      exact EndP.of (.inr rfl) [] (P := (((idxK l v n) : Int) = ((k : Nat) : Int))) (by kernel_rfl) (by first | rfl | exact idxK_hit hi (by omega) n (by omega) | (rw [show n = k by omega]; exact hi))
    · refine AW.rgs [.no, .no, .no, .n k, .d (D.lit (.int .i64 (List.getD l k 0))), .b false] [0, 1, 5, 7, 8, 16] [] (P := ((((k : Nat) : Int) : Int) = ((k : Nat) : Int)) ∧ (k < n) ∧ ((List.drop k (dI .i64 l))[0]? = some (D.lit (.int .i64 (List.getD l k 0)))) ∧ (¬ (v = (List.getD l k 0)))) (l' := [(0, sV .i64 l n), (1, iV v), (5, iV ↑k), (7, iV ↑n), (8, iV ↑k), (16, bV false)]) (g' := []) (nx' := 0) (by kernel_rfl) ⟨rfl, (by omega), (dI_at _ _ _ (by first | omega | (simp only [bsD_len, stD_len, stL_len, dI_len, List.length_append, List.length_cons, List.length_nil, List.length_take, List.length_drop, List.length_replicate, List.length_set, List.length_map, List.length_reverse, Nat.mul_one] <;> omega) | rfl)), (by omega)⟩ ?_
      refine AW.cond_f (.tmp (Look.of rfl)) ?_
      refine AW.skip ?_
      refine AW.rg [.w, .no] [0, 1, 7, 8] [] (P := ((-9223372036854775808) ≤ (((k : Nat) : Int) + 1) ∧ (((k : Nat) : Int) + 1) ≤ 9223372036854775807)) (l' := [(0, sV .i64 l n), (1, iV v), (7, iV ↑n), (8, iV (↑k + 1))]) (g' := []) (nx' := 0) (by kernel_rfl) ⟨by omega, by omega⟩ ?_
      exact Rd.of ⟨((k + 1) : Nat), (show ((k + 1) ≤ n) ∧ (idxK l v (k + 1) = -1) from ⟨(by first | omega | assumption | simp), (idxK_miss hi (by omega))⟩)⟩ [] (P := (((dI .i64 l) : List D) = (dI .i64 l)) ∧ ((n : Nat) = n) ∧ ((v : Int) = v) ∧ ((((n : Nat) : Int) : Int) = ((n : Nat) : Int)) ∧ (((((k + 1) : Nat) : Int) : Int) = (((k : Nat) : Int) + 1))) (by kernel_rfl) ⟨rfl, rfl, rfl, rfl, (by first | rfl | omega | assumption | (simp; done) | (simp; omega))⟩ (show n - (k + 1) < n - k from (by first | omega | (show _ < _; simp; omega)))
  · refine AW.rgs [.b false] [0, 1, 7, 8, 9] [] (P := (¬ (((k : Nat) : Int) < ((n : Nat) : Int)))) (l' := [(0, sV .i64 l n), (1, iV v), (7, iV ↑n), (8, iV ↑k), (9, bV false)]) (g' := []) (nx' := 0) (by kernel_rfl) (by omega) ?_
    refine AW.seq ?_
    refine AW.cond_f (.tmp (Look.of rfl)) ?_
    refine AW.exit ?_
    refine AW.rgs [.no] [4] [] (P := True) (l' := [(4, iV (-1))]) (g' := []) (nx' := 0) (by kernel_rfl) trivial ?_
    refine AW.ret ?_
    exact EndP.of (.inr rfl) [] (P := (((idxK l v n) : Int) = (-1))) (by kernel_rfl) (by first | rfl | exact idxK_hit hi (by omega) n (by omega) | (rw [show n = k by omega]; exact hi))

set_option maxHeartbeats 4000000 in
set_option maxRecDepth 100000 in
theorem V_rIndex (l : List Int) (n : Nat) (v : Int) (hn : List.length l = n) (hm : n ≤ 1000000) : Fun 29 [.c (.d (D.sl (dI .i64 l) n)), iE v] (toG []) 0 (iV (idxK l v n)) (toG []) 0 := by
  refine Fun.mk (n := 19) Tryd.func29 rfl rfl (Nat.le_of_ble_eq_true rfl) ?_
  intro cx hcx
  refine AW.rgs [.no] [0, 1] [] (P := True) (l' := [(0, sV .i64 l n), (1, iV v)]) (g' := []) (nx' := 0) (by kernel_rfl) trivial ?_
  refine AW.seq ?_
  refine AW.rgs [.no, .no, .no] [1, 7, 8, 9] [] (P := True) (l' := [(1, iV v), (7, sV .i64 l n), (8, iV ↑n), (9, iV 0)]) (g' := []) (nx' := 0) (by kernel_rfl) trivial ?_
  refine AW.block ?_
  refine AW.loopE 0 hcx (fun (x : {x : Nat // match x with | k => (k ≤ n) ∧ (idxK l v k = -1)}) => match x with | ⟨k, _⟩ => (⟨[(1, iV v), (7, sV .i64 l n), (8, iV ((n : Nat) : Int)), (9, iV ((k : Nat) : Int))], [], 0⟩ : ES)) (fun (x : {x : Nat // match x with | k => (k ≤ n) ∧ (idxK l v k = -1)}) => match x with | ⟨k, _⟩ => n - k) ⟨(0 : Nat), (show ((0 : Nat) ≤ n) ∧ (idxK l v (0 : Nat) = -1) from ⟨(by first | omega | assumption | simp), rfl⟩)⟩ [] (P := ((v : Int) = v) ∧ (((dI .i64 l) : List D) = (dI .i64 l)) ∧ ((n : Nat) = n) ∧ ((((n : Nat) : Int) : Int) = ((n : Nat) : Int)) ∧ ((0 : Int) = 0)) (by kernel_rfl) ⟨rfl, rfl, rfl, rfl, rfl⟩ ?_
  rintro ⟨k, hinv0⟩
  obtain ⟨hk, hi⟩ : (k ≤ n) ∧ (idxK l v k = -1) := hinv0
  refine AW.es (l := [(1, iV v), (7, sV .i64 l n), (8, iV ((n : Nat) : Int)), (9, iV ((k : Nat) : Int))]) (g := []) (nx := 0) rfl rfl rfl ?_
  by_cases hx1 : (((k : Nat) : Int) < ((n : Nat) : Int))
  · refine AW.rgs [.b true] [1, 7, 8, 9, 10] [] (P := ((((k : Nat) : Int) < ((n : Nat) : Int)))) (l' := [(1, iV v), (7, sV .i64 l n), (8, iV ↑n), (9, iV ↑k), (10, bV true)]) (g' := []) (nx' := 0) (by kernel_rfl) (by omega) ?_
    refine AW.seq ?_
    refine AW.cond_t (.tmp (Look.of rfl)) ?_
    refine AW.skip ?_
    refine AW.seq ?_
    refine AW.block ?_
    refine AW.rgs [.no, .n k, .d (D.lit (.int .i64 (List.getD l k 0))), .no, .no] [1, 5, 6, 7, 8, 9] [] (P := ((((k : Nat) : Int) : Int) = ((k : Nat) : Int)) ∧ (k < n) ∧ ((List.drop k (dI .i64 l))[0]? = some (D.lit (.int .i64 (List.getD l k 0))))) (l' := [(1, iV v), (5, iV ↑k), (6, iV (List.getD l k 0)), (7, sV .i64 l n), (8, iV ↑n), (9, iV ↑k)]) (g' := []) (nx' := 0) (by kernel_rfl) ⟨rfl, (by omega), (dI_at _ _ _ (by first | omega | (simp only [bsD_len, stD_len, stL_len, dI_len, List.length_append, List.length_cons, List.length_nil, List.length_take, List.length_drop, List.length_replicate, List.length_set, List.length_map, List.length_reverse, Nat.mul_one] <;> omega) | rfl))⟩ ?_
    by_cases hx2 : ((List.getD l k 0) = v)
    · refine AW.rgs [.no, .no, .b true] [1, 5, 7, 8, 9, 16] [] (P := (((List.getD l k 0) = v))) (l' := [(1, iV v), (5, iV ↑k), (7, sV .i64 l n), (8, iV ↑n), (9, iV ↑k), (16, bV true)]) (g' := []) (nx' := 0) (by kernel_rfl) (by omega) ?_
      refine AW.cond_t (.tmp (Look.of rfl)) ?_
      refine AW.rgs [.no, .no] [4] [] (P := True) (l' := [(4, iV ↑k)]) (g' := []) (nx' := 0) (by kernel_rfl) trivial ?_
      refine AW.ret ?_
      exact EndP.of (.inr rfl) [] (P := (((idxK l v n) : Int) = ((k : Nat) : Int))) (by kernel_rfl) (by first | rfl | exact idxK_hit hi (by omega) n (by omega) | (rw [show n = k by omega]; exact hi))
    · refine AW.rgs [.no, .no, .b false] [1, 5, 7, 8, 9, 16] [] (P := (¬ ((List.getD l k 0) = v))) (l' := [(1, iV v), (5, iV ↑k), (7, sV .i64 l n), (8, iV ↑n), (9, iV ↑k), (16, bV false)]) (g' := []) (nx' := 0) (by kernel_rfl) (by omega) ?_
      refine AW.cond_f (.tmp (Look.of rfl)) ?_
      refine AW.skip ?_
      refine AW.rg [.w, .no] [1, 7, 8, 9] [] (P := ((-9223372036854775808) ≤ (((k : Nat) : Int) + 1) ∧ (((k : Nat) : Int) + 1) ≤ 9223372036854775807)) (l' := [(1, iV v), (7, sV .i64 l n), (8, iV ↑n), (9, iV (↑k + 1))]) (g' := []) (nx' := 0) (by kernel_rfl) ⟨by omega, by omega⟩ ?_
      exact Rd.of ⟨((k + 1) : Nat), (show ((k + 1) ≤ n) ∧ (idxK l v (k + 1) = -1) from ⟨(by first | omega | assumption | simp), (idxK_miss hi (by omega))⟩)⟩ [] (P := ((v : Int) = v) ∧ (((dI .i64 l) : List D) = (dI .i64 l)) ∧ ((n : Nat) = n) ∧ ((((n : Nat) : Int) : Int) = ((n : Nat) : Int)) ∧ (((((k + 1) : Nat) : Int) : Int) = (((k : Nat) : Int) + 1))) (by kernel_rfl) ⟨rfl, rfl, rfl, rfl, (by first | rfl | omega | assumption | (simp; done) | (simp; omega))⟩ (show n - (k + 1) < n - k from (by first | omega | (show _ < _; simp; omega)))
  · refine AW.rgs [.b false] [1, 7, 8, 9, 10] [] (P := (¬ (((k : Nat) : Int) < ((n : Nat) : Int)))) (l' := [(1, iV v), (7, sV .i64 l n), (8, iV ↑n), (9, iV ↑k), (10, bV false)]) (g' := []) (nx' := 0) (by kernel_rfl) (by omega) ?_
    refine AW.seq ?_
    refine AW.cond_f (.tmp (Look.of rfl)) ?_
    refine AW.exit ?_
    refine AW.rgs [.no] [4] [] (P := True) (l' := [(4, iV (-1))]) (g' := []) (nx' := 0) (by kernel_rfl) trivial ?_
    refine AW.ret ?_
    exact EndP.of (.inr rfl) [] (P := (((idxK l v n) : Int) = (-1))) (by kernel_rfl) (by first | rfl | exact idxK_hit hi (by omega) n (by omega) | (rw [show n = k by omega]; exact hi))

set_option maxHeartbeats 4000000 in
set_option maxRecDepth 100000 in
theorem V_Index (l : List Int) (n : Nat) (v : Int) (hn : List.length l = n) (hm : n ≤ 1000000) : Fun 28 [.c (.d (D.sl (dI .i64 l) n)), iE v] (toG []) 0 (iV (idxK l v n)) (toG []) 0 := by
  refine Fun.mk (n := 8) Tryd.func28 rfl rfl (Nat.le_of_ble_eq_true rfl) ?_
  intro cx hcx
  refine AW.rgs [.no] [0, 1] [] (P := True) (l' := [(0, sV .i64 l n), (1, iV v)]) (g' := []) (nx' := 0) (by kernel_rfl) trivial ?_
  have hx1 : ((((-1) : Int) ≤ (idxK l v n)) ∧ ((idxK l v n) < ((n : Nat) : Int))) := idxK_rng l v n
  refine AW.rgs [.no, .no, .call [] (iV (idxK l v n)) [] 0 [] none, .no] [4] [] (P := (_)) (l' := [(4, iV (idxK l v n))]) (g' := []) (nx' := 0) (by kernel_rfl) (V_sIndex l n v (by omega) (by omega)) ?_
  refine AW.ret ?_
  exact EndP.of (.inr rfl) [] (P := (((idxK l v n) : Int) = (idxK l v n))) (by kernel_rfl) rfl

set_option maxHeartbeats 4000000 in
set_option maxRecDepth 100000 in
theorem V_isP (p : Int)  : Fun 51 [iE p] (toG []) 0 (.e (.c (.d (D.lit (.bool (decide (1 ≤ p ∧ p ≤ 8))))))) (toG []) 0 := by
  refine Fun.mk (n := 9) Tryd.func51 rfl rfl (Nat.le_of_ble_eq_true rfl) ?_
  intro cx hcx
  refine AW.rgs [.no] [0] [] (P := True) (l' := [(0, iV p)]) (g' := []) (nx' := 0) (by kernel_rfl) trivial ?_
  by_cases hx1 : ((1 : Int) ≤ p)
  · by_cases hx2 : (p ≤ 8)
    · refine AW.rgs [.no, .b true, .no, .no, .b true, .no, .no] [2] [] (P := (((1 : Int) ≤ p)) ∧ ((p ≤ 8))) (l' := [(2, bV true)]) (g' := []) (nx' := 0) (by kernel_rfl) ⟨(by omega), (by omega)⟩ ?_
      refine AW.ret ?_
      exact EndP.of (.inr rfl) [] (P := ((decide (1 ≤ p ∧ p ≤ 8)) = true)) (by kernel_rfl) (by first | rfl | assumption | exact decide_eq_true (by omega) | exact decide_eq_false (by omega) | (simp; omega))
    · refine AW.rgs [.no, .b true, .no, .no, .b false, .no, .no] [2] [] (P := (((1 : Int) ≤ p)) ∧ (¬ (p ≤ 8))) (l' := [(2, bV false)]) (g' := []) (nx' := 0) (by kernel_rfl) ⟨(by omega), (by omega)⟩ ?_
      refine AW.ret ?_
      exact EndP.of (.inr rfl) [] (P := ((decide (1 ≤ p ∧ p ≤ 8)) = false)) (by kernel_rfl) (by first | rfl | assumption | exact decide_eq_true (by omega) | exact decide_eq_false (by omega) | (simp; omega))
  · refine AW.rgs [.no, .b false, .no, .no, .no] [2] [] (P := (¬ ((1 : Int) ≤ p))) (l' := [(2, bV false)]) (g' := []) (nx' := 0) (by kernel_rfl) (by omega) ?_
    refine AW.ret ?_
    exact EndP.of (.inr rfl) [] (P := ((decide (1 ≤ p ∧ p ≤ 8)) = false)) (by kernel_rfl) (by first | rfl | assumption | exact decide_eq_true (by omega) | exact decide_eq_false (by omega) | (simp; omega))

set_option maxHeartbeats 4000000 in
set_option maxRecDepth 100000 in
theorem V_Valid (l : List Int) (n : Nat) (hn : List.length l = n) (hm : n ≤ 1000000) : Fun 26 [.c (.d (D.sl (dI .i64 l) n))] (toG []) 0 (.e (.c (.d (D.lit (.bool (chB l n)))))) (toG []) 0 := by
  refine Fun.mk (n := 31) Tryd.func26 rfl rfl (Nat.le_of_ble_eq_true rfl) ?_
  intro cx hcx
  refine AW.rgs [.no] [0] [] (P := True) (l' := [(0, sV .i64 l n)]) (g' := []) (nx' := 0) (by kernel_rfl) trivial ?_
  refine AW.seq ?_
  by_cases hx1 : (((n : Nat) : Int) < 1)
  · refine AW.rgs [.no, .no, .b true, .no, .no] [0, 12] [] (P := ((((n : Nat) : Int) < 1))) (l' := [(0, sV .i64 l n), (12, bV true)]) (g' := []) (nx' := 0) (by kernel_rfl) (by omega) ?_
    refine AW.cond_t (.tmp (Look.of rfl)) ?_
    refine AW.rgs [.no] [2] [] (P := True) (l' := [(2, bV false)]) (g' := []) (nx' := 0) (by kernel_rfl) trivial ?_
    refine AW.ret ?_
    exact EndP.of (.inr rfl) [] (P := ((chB l n) = false)) (by kernel_rfl) (by first | exact chB_t (by omega) (fun j hj => ha j (by omega)) | exact chB_f (by omega) | exact chB_s (k := k) (by omega) (decide_eq_false (by omega)))
  · by_cases hx2 : ((8 : Int) < ((n : Nat) : Int))
    · refine AW.rgs [.no, .no, .b false, .no, .no, .no, .b true, .no] [0, 12] [] (P := (¬ (((n : Nat) : Int) < 1)) ∧ (((8 : Int) < ((n : Nat) : Int)))) (l' := [(0, sV .i64 l n), (12, bV true)]) (g' := []) (nx' := 0) (by kernel_rfl) ⟨(by omega), (by omega)⟩ ?_
      refine AW.cond_t (.tmp (Look.of rfl)) ?_
      refine AW.rgs [.no] [2] [] (P := True) (l' := [(2, bV false)]) (g' := []) (nx' := 0) (by kernel_rfl) trivial ?_
      refine AW.ret ?_
      exact EndP.of (.inr rfl) [] (P := ((chB l n) = false)) (by kernel_rfl) (by first | exact chB_t (by omega) (fun j hj => ha j (by omega)) | exact chB_f (by omega) | exact chB_s (k := k) (by omega) (decide_eq_false (by omega)))
    · refine AW.rgs [.no, .no, .b false, .no, .no, .no, .b false, .no] [0, 12] [] (P := (¬ (((n : Nat) : Int) < 1)) ∧ (¬ ((8 : Int) < ((n : Nat) : Int)))) (l' := [(0, sV .i64 l n), (12, bV false)]) (g' := []) (nx' := 0) (by kernel_rfl) ⟨(by omega), (by omega)⟩ ?_
      refine AW.cond_f (.tmp (Look.of rfl)) ?_
      refine AW.skip ?_
      refine AW.seq ?_
      refine AW.rgs [.no, .no, .no] [0, 13, 14, 15] [] (P := True) (l' := [(0, sV .i64 l n), (13, sV .i64 l n), (14, iV ↑n), (15, iV 0)]) (g' := []) (nx' := 0) (by kernel_rfl) trivial ?_
      refine AW.block ?_
      refine AW.loopE 0 hcx (fun (x : {x : Nat // match x with | k => (k ≤ n) ∧ (∀ j, j < k → chE l n j = true)}) => match x with | ⟨k, _⟩ => (⟨[(0, sV .i64 l n), (13, sV .i64 l n), (14, iV ((n : Nat) : Int)), (15, iV ((k : Nat) : Int))], [], 0⟩ : ES)) (fun (x : {x : Nat // match x with | k => (k ≤ n) ∧ (∀ j, j < k → chE l n j = true)}) => match x with | ⟨k, _⟩ => n - k) ⟨(0 : Nat), (show ((0 : Nat) ≤ n) ∧ (∀ j, j < (0 : Nat) → chE l n j = true) from ⟨(by first | omega | assumption | simp), (fun j hj => absurd hj (Nat.not_lt_zero j))⟩)⟩ [] (P := (((dI .i64 l) : List D) = (dI .i64 l)) ∧ ((n : Nat) = n) ∧ (((dI .i64 l) : List D) = (dI .i64 l)) ∧ ((n : Nat) = n) ∧ ((((n : Nat) : Int) : Int) = ((n : Nat) : Int)) ∧ ((0 : Int) = 0)) (by kernel_rfl) ⟨rfl, rfl, rfl, rfl, rfl, rfl⟩ ?_
      rintro ⟨k, hinv0⟩
      obtain ⟨hk, ha⟩ : (k ≤ n) ∧ (∀ j, j < k → chE l n j = true) := hinv0
      refine AW.es (l := [(0, sV .i64 l n), (13, sV .i64 l n), (14, iV ((n : Nat) : Int)), (15, iV ((k : Nat) : Int))]) (g := []) (nx := 0) rfl rfl rfl ?_
      by_cases hx3 : (((k : Nat) : Int) < ((n : Nat) : Int))
      · refine AW.rgs [.b true] [0, 13, 14, 15, 16] [] (P := ((((k : Nat) : Int) < ((n : Nat) : Int)))) (l' := [(0, sV .i64 l n), (13, sV .i64 l n), (14, iV ↑n), (15, iV ↑k), (16, bV true)]) (g' := []) (nx' := 0) (by kernel_rfl) (by omega) ?_
        refine AW.seq ?_
        refine AW.cond_t (.tmp (Look.of rfl)) ?_
        refine AW.skip ?_
        refine AW.seq ?_
        refine AW.block ?_
        refine AW.rgs [.no, .n k, .d (D.lit (.int .i64 (List.getD l k 0))), .no, .no] [0, 3, 4, 13, 14, 15] [] (P := ((((k : Nat) : Int) : Int) = ((k : Nat) : Int)) ∧ (k < n) ∧ ((List.drop k (dI .i64 l))[0]? = some (D.lit (.int .i64 (List.getD l k 0))))) (l' := [(0, sV .i64 l n), (3, iV ↑k), (4, iV (List.getD l k 0)), (13, sV .i64 l n), (14, iV ↑n), (15, iV ↑k)]) (g' := []) (nx' := 0) (by kernel_rfl) ⟨rfl, (by omega), (dI_at _ _ _ (by first | omega | (simp only [bsD_len, stD_len, stL_len, dI_len, List.length_append, List.length_cons, List.length_nil, List.length_take, List.length_drop, List.length_replicate, List.length_set, List.length_map, List.length_reverse, Nat.mul_one] <;> omega) | rfl))⟩ ?_
        rcases Bool.eq_false_or_eq_true (decide (1 ≤ (List.getD l k 0) ∧ (List.getD l k 0) ≤ 8)) with hx4 | hx4
        · have hx5 : (((1 : Int) ≤ (List.getD l k 0)) ∧ ((List.getD l k 0) ≤ 8)) := of_decide_eq_true hx4
          by_cases hx7 : ((idxK l (List.getD l k 0) n) ≠ ((k : Nat) : Int))
          · have hx8 : ((((-1) : Int) ≤ (idxK l (List.getD l k 0) n)) ∧ ((idxK l (List.getD l k 0) n) < ((n : Nat) : Int))) := idxK_rng l (List.getD l k 0) n
            refine AW.rgs [.no, .call [] (bV true) [] 0 [] none, .no, .no, .no, .no, .call [] (iV (idxK l (List.getD l k 0) n)) [] 0 [] none, .no, .b true, .no] [0, 13, 14, 15, 29] [] (P := (Fun 51 [iE (List.getD l k 0)] (toG []) 0 (bV true) (toG []) 0) ∧ (_) ∧ (((idxK l (List.getD l k 0) n) ≠ ((k : Nat) : Int)))) (l' := [(0, sV .i64 l n), (13, sV .i64 l n), (14, iV ↑n), (15, iV ↑k), (29, bV true)]) (g' := []) (nx' := 0) (by kernel_rfl) ⟨(by have h0 := (V_isP (List.getD l k 0)); rw [hx4] at h0; exact h0), (V_Index l n (List.getD l k 0) (by omega) (by omega)), (by omega)⟩ ?_
            refine AW.cond_t (.tmp (Look.of rfl)) ?_
            refine AW.rgs [.no] [2] [] (P := True) (l' := [(2, bV false)]) (g' := []) (nx' := 0) (by kernel_rfl) trivial ?_
            refine AW.ret ?_
            exact EndP.of (.inr rfl) [] (P := ((chB l n) = false)) (by kernel_rfl) (by first | exact chB_t (by omega) (fun j hj => ha j (by omega)) | exact chB_f (by omega) | exact chB_s (k := k) (by omega) (decide_eq_false (by omega)))
          · have hx9 : ((((-1) : Int) ≤ (idxK l (List.getD l k 0) n)) ∧ ((idxK l (List.getD l k 0) n) < ((n : Nat) : Int))) := idxK_rng l (List.getD l k 0) n
            refine AW.rgs [.no, .call [] (bV true) [] 0 [] none, .no, .no, .no, .no, .call [] (iV (idxK l (List.getD l k 0) n)) [] 0 [] none, .no, .b false, .no] [0, 13, 14, 15, 29] [] (P := (Fun 51 [iE (List.getD l k 0)] (toG []) 0 (bV true) (toG []) 0) ∧ (_) ∧ (¬ ((idxK l (List.getD l k 0) n) ≠ ((k : Nat) : Int)))) (l' := [(0, sV .i64 l n), (13, sV .i64 l n), (14, iV ↑n), (15, iV ↑k), (29, bV false)]) (g' := []) (nx' := 0) (by kernel_rfl) ⟨(by have h0 := (V_isP (List.getD l k 0)); rw [hx4] at h0; exact h0), (V_Index l n (List.getD l k 0) (by omega) (by omega)), (by omega)⟩ ?_
            refine AW.cond_f (.tmp (Look.of rfl)) ?_
            refine AW.skip ?_
            refine AW.rg [.w, .no] [0, 13, 14, 15] [] (P := ((-9223372036854775808) ≤ (((k : Nat) : Int) + 1) ∧ (((k : Nat) : Int) + 1) ≤ 9223372036854775807)) (l' := [(0, sV .i64 l n), (13, sV .i64 l n), (14, iV ↑n), (15, iV (↑k + 1))]) (g' := []) (nx' := 0) (by kernel_rfl) ⟨by omega, by omega⟩ ?_
            exact Rd.of ⟨((k + 1) : Nat), (show ((k + 1) ≤ n) ∧ (∀ j, j < (k + 1) → chE l n j = true) from ⟨(by first | omega | assumption | simp), (fun j hj => (Nat.lt_succ_iff_lt_or_eq.1 hj).elim (ha j) (fun e9 => by subst e9; exact decide_eq_true (by omega)))⟩)⟩ [] (P := (((dI .i64 l) : List D) = (dI .i64 l)) ∧ ((n : Nat) = n) ∧ (((dI .i64 l) : List D) = (dI .i64 l)) ∧ ((n : Nat) = n) ∧ ((((n : Nat) : Int) : Int) = ((n : Nat) : Int)) ∧ (((((k + 1) : Nat) : Int) : Int) = (((k : Nat) : Int) + 1))) (by kernel_rfl) ⟨rfl, rfl, rfl, rfl, rfl, (by first | rfl | omega | assumption | (simp; done) | (simp; omega))⟩ (show n - (k + 1) < n - k from (by first | omega | (show _ < _; simp; omega)))
        · have hx10 : ¬ (((1 : Int) ≤ (List.getD l k 0)) ∧ ((List.getD l k 0) ≤ 8)) := of_decide_eq_false hx4
          refine AW.rgs [.no, .call [] (bV false) [] 0 [] none, .no, .no, .no] [0, 13, 14, 15, 29] [] (P := (Fun 51 [iE (List.getD l k 0)] (toG []) 0 (bV false) (toG []) 0)) (l' := [(0, sV .i64 l n), (13, sV .i64 l n), (14, iV ↑n), (15, iV ↑k), (29, bV true)]) (g' := []) (nx' := 0) (by kernel_rfl) (by have h0 := (V_isP (List.getD l k 0)); rw [hx4] at h0; exact h0) ?_
          refine AW.cond_t (.tmp (Look.of rfl)) ?_
          refine AW.rgs [.no] [2] [] (P := True) (l' := [(2, bV false)]) (g' := []) (nx' := 0) (by kernel_rfl) trivial ?_
          refine AW.ret ?_
          exact EndP.of (.inr rfl) [] (P := ((chB l n) = false)) (by kernel_rfl) (by first | exact chB_t (by omega) (fun j hj => ha j (by omega)) | exact chB_f (by omega) | exact chB_s (k := k) (by omega) (decide_eq_false (by omega)))
      · refine AW.rgs [.b false] [0, 13, 14, 15, 16] [] (P := (¬ (((k : Nat) : Int) < ((n : Nat) : Int)))) (l' := [(0, sV .i64 l n), (13, sV .i64 l n), (14, iV ↑n), (15, iV ↑k), (16, bV false)]) (g' := []) (nx' := 0) (by kernel_rfl) (by omega) ?_
        refine AW.seq ?_
        refine AW.cond_f (.tmp (Look.of rfl)) ?_
        refine AW.exit ?_
        refine AW.rgs [.no] [2] [] (P := True) (l' := [(2, bV true)]) (g' := []) (nx' := 0) (by kernel_rfl) trivial ?_
        refine AW.ret ?_
        exact EndP.of (.inr rfl) [] (P := ((chB l n) = true)) (by kernel_rfl) (by first | exact chB_t (by omega) (fun j hj => ha j (by omega)) | exact chB_f (by omega) | exact chB_s (k := k) (by omega) (decide_eq_false (by omega)))

set_option maxHeartbeats 4000000 in
set_option maxRecDepth 100000 in
theorem V_rValid (l : List Int) (n : Nat) (hn : List.length l = n) (hm : n ≤ 1000000) : Fun 27 [.c (.d (D.sl (dI .i64 l) n))] (toG []) 0 (.e (.c (.d (D.lit (.bool (chB l n)))))) (toG []) 0 := by
  refine Fun.mk (n := 34) Tryd.func27 rfl rfl (Nat.le_of_ble_eq_true rfl) ?_
  intro cx hcx
  refine AW.rgs [.no] [0] [] (P := True) (l' := [(0, sV .i64 l n)]) (g' := []) (nx' := 0) (by kernel_rfl) trivial ?_
  refine AW.seq ?_
  refine AW.rgs [.no, .no, .no] [0, 5, 6, 7] [] (P := True) (l' := [(0, sV .i64 l n), (5, sV .i64 l n), (6, iV ↑n), (7, iV 0)]) (g' := []) (nx' := 0) (by kernel_rfl) trivial ?_
  refine AW.block ?_
  refine AW.loopE 0 hcx (fun (x : {x : Nat // match x with | k => (k ≤ n) ∧ (∀ j, j < k → chE l n j = true)}) => match x with | ⟨k, _⟩ => (⟨[(0, sV .i64 l n), (5, sV .i64 l n), (6, iV ((n : Nat) : Int)), (7, iV ((k : Nat) : Int))], [], 0⟩ : ES)) (fun (x : {x : Nat // match x with | k => (k ≤ n) ∧ (∀ j, j < k → chE l n j = true)}) => match x with | ⟨k, _⟩ => n - k) ⟨(0 : Nat), (show ((0 : Nat) ≤ n) ∧ (∀ j, j < (0 : Nat) → chE l n j = true) from ⟨(by first | omega | assumption | simp), (fun j hj => absurd hj (Nat.not_lt_zero j))⟩)⟩ [] (P := (((dI .i64 l) : List D) = (dI .i64 l)) ∧ ((n : Nat) = n) ∧ (((dI .i64 l) : List D) = (dI .i64 l)) ∧ ((n : Nat) = n) ∧ ((((n : Nat) : Int) : Int) = ((n : Nat) : Int)) ∧ ((0 : Int) = 0)) (by kernel_rfl) ⟨rfl, rfl, rfl, rfl, rfl, rfl⟩ ?_
  rintro ⟨k, hinv0⟩
  obtain ⟨hk, ha⟩ : (k ≤ n) ∧ (∀ j, j < k → chE l n j = true) := hinv0
  refine AW.es (l := [(0, sV .i64 l n), (5, sV .i64 l n), (6, iV ((n : Nat) : Int)), (7, iV ((k : Nat) : Int))]) (g := []) (nx := 0) rfl rfl rfl ?_
  by_cases hx1 : (((k : Nat) : Int) < ((n : Nat) : Int))
  · refine AW.rgs [.b true] [0, 5, 6, 7, 8] [] (P := ((((k : Nat) : Int) < ((n : Nat) : Int)))) (l' := [(0, sV .i64 l n), (5, sV .i64 l n), (6, iV ↑n), (7, iV ↑k), (8, bV true)]) (g' := []) (nx' := 0) (by kernel_rfl) (by omega) ?_
    refine AW.seq ?_
    refine AW.cond_t (.tmp (Look.of rfl)) ?_
    refine AW.skip ?_
    refine AW.seq ?_
    refine AW.block ?_
    refine AW.rgs [.no, .n k, .d (D.lit (.int .i64 (List.getD l k 0))), .no, .no] [0, 3, 4, 5, 6, 7] [] (P := ((((k : Nat) : Int) : Int) = ((k : Nat) : Int)) ∧ (k < n) ∧ ((List.drop k (dI .i64 l))[0]? = some (D.lit (.int .i64 (List.getD l k 0))))) (l' := [(0, sV .i64 l n), (3, iV ↑k), (4, iV (List.getD l k 0)), (5, sV .i64 l n), (6, iV ↑n), (7, iV ↑k)]) (g' := []) (nx' := 0) (by kernel_rfl) ⟨rfl, (by omega), (dI_at _ _ _ (by first | omega | (simp only [bsD_len, stD_len, stL_len, dI_len, List.length_append, List.length_cons, List.length_nil, List.length_take, List.length_drop, List.length_replicate, List.length_set, List.length_map, List.length_reverse, Nat.mul_one] <;> omega) | rfl))⟩ ?_
    by_cases hx2 : ((List.getD l k 0) < 1)
    · refine AW.rgs [.no, .b true, .no, .no, .no, .no] [0, 5, 6, 7, 24] [] (P := (((List.getD l k 0) < 1))) (l' := [(0, sV .i64 l n), (5, sV .i64 l n), (6, iV ↑n), (7, iV ↑k), (24, bV true)]) (g' := []) (nx' := 0) (by kernel_rfl) (by omega) ?_
      refine AW.cond_t (.tmp (Look.of rfl)) ?_
      refine AW.rgs [.no] [2] [] (P := True) (l' := [(2, bV false)]) (g' := []) (nx' := 0) (by kernel_rfl) trivial ?_
      refine AW.ret ?_
      exact EndP.of (.inr rfl) [] (P := ((chB l n) = false)) (by kernel_rfl) (by first | exact chB_t (by omega) (fun j hj => ha j (by omega)) | exact chB_f (by omega) | exact chB_s (k := k) (by omega) (decide_eq_false (by omega)))
    · by_cases hx3 : ((8 : Int) < (List.getD l k 0))
      · refine AW.rgs [.no, .b false, .no, .no, .b true, .no, .no, .no] [0, 5, 6, 7, 24] [] (P := (¬ ((List.getD l k 0) < 1)) ∧ (((8 : Int) < (List.getD l k 0)))) (l' := [(0, sV .i64 l n), (5, sV .i64 l n), (6, iV ↑n), (7, iV ↑k), (24, bV true)]) (g' := []) (nx' := 0) (by kernel_rfl) ⟨(by omega), (by omega)⟩ ?_
        refine AW.cond_t (.tmp (Look.of rfl)) ?_
        refine AW.rgs [.no] [2] [] (P := True) (l' := [(2, bV false)]) (g' := []) (nx' := 0) (by kernel_rfl) trivial ?_
        refine AW.ret ?_
        exact EndP.of (.inr rfl) [] (P := ((chB l n) = false)) (by kernel_rfl) (by first | exact chB_t (by omega) (fun j hj => ha j (by omega)) | exact chB_f (by omega) | exact chB_s (k := k) (by omega) (decide_eq_false (by omega)))
      · by_cases hx5 : ((idxK l (List.getD l k 0) n) ≠ ((k : Nat) : Int))
        · have hx6 : ((((-1) : Int) ≤ (idxK l (List.getD l k 0) n)) ∧ ((idxK l (List.getD l k 0) n) < ((n : Nat) : Int))) := idxK_rng l (List.getD l k 0) n
          refine AW.rgs [.no, .b false, .no, .no, .b false, .no, .no, .no, .no, .call [] (iV (idxK l (List.getD l k 0) n)) [] 0 [] none, .no, .b true, .no] [0, 5, 6, 7, 24] [] (P := (¬ ((List.getD l k 0) < 1)) ∧ (¬ ((8 : Int) < (List.getD l k 0))) ∧ (_) ∧ (((idxK l (List.getD l k 0) n) ≠ ((k : Nat) : Int)))) (l' := [(0, sV .i64 l n), (5, sV .i64 l n), (6, iV ↑n), (7, iV ↑k), (24, bV true)]) (g' := []) (nx' := 0) (by kernel_rfl) ⟨(by omega), (by omega), (V_rIndex l n (List.getD l k 0) (by omega) (by omega)), (by omega)⟩ ?_
          refine AW.cond_t (.tmp (Look.of rfl)) ?_
          refine AW.rgs [.no] [2] [] (P := True) (l' := [(2, bV false)]) (g' := []) (nx' := 0) (by kernel_rfl) trivial ?_
          refine AW.ret ?_
          exact EndP.of (.inr rfl) [] (P := ((chB l n) = false)) (by kernel_rfl) (by first | exact chB_t (by omega) (fun j hj => ha j (by omega)) | exact chB_f (by omega) | exact chB_s (k := k) (by omega) (decide_eq_false (by omega)))
        · have hx7 : ((((-1) : Int) ≤ (idxK l (List.getD l k 0) n)) ∧ ((idxK l (List.getD l k 0) n) < ((n : Nat) : Int))) := idxK_rng l (List.getD l k 0) n
          refine AW.rgs [.no, .b false, .no, .no, .b false, .no, .no, .no, .no, .call [] (iV (idxK l (List.getD l k 0) n)) [] 0 [] none, .no, .b false, .no] [0, 5, 6, 7, 24] [] (P := (¬ ((List.getD l k 0) < 1)) ∧ (¬ ((8 : Int) < (List.getD l k 0))) ∧ (_) ∧ (¬ ((idxK l (List.getD l k 0) n) ≠ ((k : Nat) : Int)))) (l' := [(0, sV .i64 l n), (5, sV .i64 l n), (6, iV ↑n), (7, iV ↑k), (24, bV false)]) (g' := []) (nx' := 0) (by kernel_rfl) ⟨(by omega), (by omega), (V_rIndex l n (List.getD l k 0) (by omega) (by omega)), (by omega)⟩ ?_
          refine AW.cond_f (.tmp (Look.of rfl)) ?_
          refine AW.skip ?_
          refine AW.rg [.w, .no] [0, 5, 6, 7] [] (P := ((-9223372036854775808) ≤ (((k : Nat) : Int) + 1) ∧ (((k : Nat) : Int) + 1) ≤ 9223372036854775807)) (l' := [(0, sV .i64 l n), (5, sV .i64 l n), (6, iV ↑n), (7, iV (↑k + 1))]) (g' := []) (nx' := 0) (by kernel_rfl) ⟨by omega, by omega⟩ ?_
          exact Rd.of ⟨((k + 1) : Nat), (show ((k + 1) ≤ n) ∧ (∀ j, j < (k + 1) → chE l n j = true) from ⟨(by first | omega | assumption | simp), (fun j hj => (Nat.lt_succ_iff_lt_or_eq.1 hj).elim (ha j) (fun e9 => by subst e9; exact decide_eq_true (by omega)))⟩)⟩ [] (P := (((dI .i64 l) : List D) = (dI .i64 l)) ∧ ((n : Nat) = n) ∧ (((dI .i64 l) : List D) = (dI .i64 l)) ∧ ((n : Nat) = n) ∧ ((((n : Nat) : Int) : Int) = ((n : Nat) : Int)) ∧ (((((k + 1) : Nat) : Int) : Int) = (((k : Nat) : Int) + 1))) (by kernel_rfl) ⟨rfl, rfl, rfl, rfl, rfl, (by first | rfl | omega | assumption | (simp; done) | (simp; omega))⟩ (show n - (k + 1) < n - k from (by first | omega | (show _ < _; simp; omega)))
  · refine AW.rgs [.b false] [0, 5, 6, 7, 8] [] (P := (¬ (((k : Nat) : Int) < ((n : Nat) : Int)))) (l' := [(0, sV .i64 l n), (5, sV .i64 l n), (6, iV ↑n), (7, iV ↑k), (8, bV false)]) (g' := []) (nx' := 0) (by kernel_rfl) (by omega) ?_
    refine AW.seq ?_
    refine AW.cond_f (.tmp (Look.of rfl)) ?_
    refine AW.exit ?_
    by_cases hx8 : ((1 : Int) ≤ ((n : Nat) : Int))
    · by_cases hx9 : (((n : Nat) : Int) ≤ 8)
      · refine AW.rgs [.no, .no, .b true, .no, .no, .no, .b true, .no, .no] [2] [] (P := (((1 : Int) ≤ ((n : Nat) : Int))) ∧ ((((n : Nat) : Int) ≤ 8))) (l' := [(2, bV true)]) (g' := []) (nx' := 0) (by kernel_rfl) ⟨(by omega), (by omega)⟩ ?_
        refine AW.ret ?_
        exact EndP.of (.inr rfl) [] (P := ((chB l n) = true)) (by kernel_rfl) (by first | exact chB_t (by omega) (fun j hj => ha j (by omega)) | exact chB_f (by omega) | exact chB_s (k := k) (by omega) (decide_eq_false (by omega)))
      · refine AW.rgs [.no, .no, .b true, .no, .no, .no, .b false, .no, .no] [2] [] (P := (((1 : Int) ≤ ((n : Nat) : Int))) ∧ (¬ (((n : Nat) : Int) ≤ 8))) (l' := [(2, bV false)]) (g' := []) (nx' := 0) (by kernel_rfl) ⟨(by omega), (by omega)⟩ ?_
        refine AW.ret ?_
        exact EndP.of (.inr rfl) [] (P := ((chB l n) = false)) (by kernel_rfl) (by first | exact chB_t (by omega) (fun j hj => ha j (by omega)) | exact chB_f (by omega) | exact chB_s (k := k) (by omega) (decide_eq_false (by omega)))
    · refine AW.rgs [.no, .no, .b false, .no, .no, .no] [2] [] (P := (¬ ((1 : Int) ≤ ((n : Nat) : Int)))) (l' := [(2, bV false)]) (g' := []) (nx' := 0) (by kernel_rfl) (by omega) ?_
      refine AW.ret ?_
      exact EndP.of (.inr rfl) [] (P := ((chB l n) = false)) (by kernel_rfl) (by first | exact chB_t (by omega) (fun j hj => ha j (by omega)) | exact chB_f (by omega) | exact chB_s (k := k) (by omega) (decide_eq_false (by omega)))

set_option maxHeartbeats 4000000 in
set_option maxRecDepth 100000 in
theorem V_pos (l : List Int) (hy : Byt l) : Fun 50 [.c (.d (D.lit (.string (strOfNums l))))] (toG []) 0 (.tup [iE (poV l), .c (.d (D.lit (.bool (decide (¬ poV l = 0)))))]) (toG []) 0 := by
  have hpr : 0 ≤ poV l ∧ poV l ≤ 8 := poV_rng l
  refine Fun.mk (n := 15) Tryd.func50 rfl rfl (Nat.le_of_ble_eq_true rfl) ?_
  intro cx hcx
  refine AW.rgs [.no, .no] [0] [] (P := True) (l' := [(0, .e (.c (.d (D.lit (.string (strOfNums l))))))]) (g' := []) (nx' := 0) (by kernel_rfl) trivial ?_
  refine AW.seq ?_
  refine AW.rgs [.no] [0, 4] [] (P := True) (l' := [(0, .e (.c (.d (D.lit (.string (strOfNums l)))))), (4, iV 1)]) (g' := []) (nx' := 0) (by kernel_rfl) trivial ?_
  refine AW.block ?_
  refine AW.loopE 0 hcx (fun (x : {x : Nat // match x with | k => (1 ≤ k ∧ k ≤ 9) ∧ (poV l = 0 ∨ (k : Int) ≤ poV l)}) => match x with | ⟨k, _⟩ => (⟨[(0, .e (.c (.d (D.lit (.string (strOfNums l)))))), (4, iV ((k : Nat) : Int))], [], 0⟩ : ES)) (fun (x : {x : Nat // match x with | k => (1 ≤ k ∧ k ≤ 9) ∧ (poV l = 0 ∨ (k : Int) ≤ poV l)}) => match x with | ⟨k, _⟩ => 9 - k) ⟨(1 : Nat), (show (1 ≤ (1 : Nat) ∧ (1 : Nat) ≤ 9) ∧ (poV l = 0 ∨ ((1 : Nat) : Int) ≤ poV l) from ⟨(by first | omega | assumption | simp), (by have := poV_rng l; omega)⟩)⟩ [] (P := ((.string (strOfNums l) : Value) = .string (strOfNums l)) ∧ ((1 : Int) = 1)) (by kernel_rfl) ⟨rfl, rfl⟩ ?_
  rintro ⟨k, hinv0⟩
  obtain ⟨hk, ha⟩ : (1 ≤ k ∧ k ≤ 9) ∧ (poV l = 0 ∨ (k : Int) ≤ poV l) := hinv0
  refine AW.es (l := [(0, .e (.c (.d (D.lit (.string (strOfNums l)))))), (4, iV ((k : Nat) : Int))]) (g := []) (nx := 0) rfl rfl rfl ?_
  refine AW.seq ?_
  by_cases hx1 : (((k : Nat) : Int) ≤ 8)
  · refine AW.rgs [.no, .b true] [0, 4, 6] [] (P := ((((k : Nat) : Int) ≤ 8))) (l' := [(0, .e (.c (.d (D.lit (.string (strOfNums l)))))), (4, iV ↑k), (6, bV true)]) (g' := []) (nx' := 0) (by kernel_rfl) (by omega) ?_
    refine AW.cond_t (.tmp (Look.of rfl)) ?_
    refine AW.skip ?_
    refine AW.seq ?_
    refine AW.block ?_
    by_cases hx3 : ((poV l) = ((k : Nat) : Int))
    · have hx4 : ((List.length (pcL ((k : Nat) : Int))) = 2) := pcL_len2 (p := ((k : Nat) : Int)) (by omega)
      refine AW.rgs [.no, .n k, .d (D.lit (.string (strOfNums (pcL ((k : Nat) : Int))))), .no, .b true] [0, 4, 13] [] (P := ((((k : Nat) : Int) : Int) = ((k : Nat) : Int)) ∧ (k < 9) ∧ ((List.drop k (stD nmT))[0]? = some (D.lit (.string (strOfNums (pcL ((k : Nat) : Int)))))) ∧ ((ByteArray.toList (strOfNums (pcL ((k : Nat) : Int))) == ByteArray.toList (strOfNums l)) = true)) (l' := [(0, .e (.c (.d (D.lit (.string (strOfNums l)))))), (4, iV ↑k), (13, bV true)]) (g' := []) (nx' := 0) (by kernel_rfl) ⟨rfl, (by omega), (nm_ld (p := ((k : Nat) : Int)) (by omega) (by omega)), (str_po_y (k := ((k : Nat) : Int)) (by omega) rfl (by omega))⟩ ?_
      refine AW.cond_t (.tmp (Look.of rfl)) ?_
      refine AW.rgs [.no, .no, .no] [2, 3] [] (P := True) (l' := [(2, iV ↑k), (3, bV true)]) (g' := []) (nx' := 0) (by kernel_rfl) trivial ?_
      refine AW.ret ?_
      exact EndP.of (.inr rfl) [] (P := (((poV l) : Int) = ((k : Nat) : Int)) ∧ ((decide (¬ poV l = 0)) = true)) (by kernel_rfl) ⟨(by first | omega | rfl | assumption | (simp; done) | (simp; omega)), (by first | rfl | assumption | exact decide_eq_true (by omega) | exact decide_eq_false (by omega) | (simp; omega))⟩
    · have hx5 : ((List.length (pcL ((k : Nat) : Int))) = 2) := pcL_len2 (p := ((k : Nat) : Int)) (by omega)
      refine AW.rgs [.no, .n k, .d (D.lit (.string (strOfNums (pcL ((k : Nat) : Int))))), .no, .b false] [0, 4, 13] [] (P := ((((k : Nat) : Int) : Int) = ((k : Nat) : Int)) ∧ (k < 9) ∧ ((List.drop k (stD nmT))[0]? = some (D.lit (.string (strOfNums (pcL ((k : Nat) : Int)))))) ∧ ((ByteArray.toList (strOfNums (pcL ((k : Nat) : Int))) == ByteArray.toList (strOfNums l)) = false)) (l' := [(0, .e (.c (.d (D.lit (.string (strOfNums l)))))), (4, iV ↑k), (13, bV false)]) (g' := []) (nx' := 0) (by kernel_rfl) ⟨rfl, (by omega), (nm_ld (p := ((k : Nat) : Int)) (by omega) (by omega)), (str_po_n (k := ((k : Nat) : Int)) (by omega) (show Byt l by with_reducible assumption) rfl (by omega))⟩ ?_
      refine AW.cond_f (.tmp (Look.of rfl)) ?_
      refine AW.skip ?_
      refine AW.rg [.no, .w, .no] [0, 4] [] (P := ((-9223372036854775808) ≤ (((k : Nat) : Int) + 1) ∧ (((k : Nat) : Int) + 1) ≤ 9223372036854775807)) (l' := [(0, .e (.c (.d (D.lit (.string (strOfNums l)))))), (4, iV (↑k + 1))]) (g' := []) (nx' := 0) (by kernel_rfl) ⟨by omega, by omega⟩ ?_
      exact Rd.of ⟨((k + 1) : Nat), (show (1 ≤ (k + 1) ∧ (k + 1) ≤ 9) ∧ (poV l = 0 ∨ ((k + 1) : Int) ≤ poV l) from ⟨(by first | omega | assumption | simp), (by omega)⟩)⟩ [] (P := ((.string (strOfNums l) : Value) = .string (strOfNums l)) ∧ (((((k + 1) : Nat) : Int) : Int) = (((k : Nat) : Int) + 1))) (by kernel_rfl) ⟨rfl, (by first | rfl | omega | assumption | (simp; done) | (simp; omega))⟩ (show 9 - (k + 1) < 9 - k from (by first | omega | (show _ < _; simp; omega)))
  · refine AW.rgs [.no, .b false] [0, 4, 6] [] (P := (¬ (((k : Nat) : Int) ≤ 8))) (l' := [(0, .e (.c (.d (D.lit (.string (strOfNums l)))))), (4, iV ↑k), (6, bV false)]) (g' := []) (nx' := 0) (by kernel_rfl) (by omega) ?_
    refine AW.cond_f (.tmp (Look.of rfl)) ?_
    refine AW.exit ?_
    refine AW.rgs [.no, .no] [2, 3] [] (P := True) (l' := [(2, iV 0), (3, bV false)]) (g' := []) (nx' := 0) (by kernel_rfl) trivial ?_
    refine AW.ret ?_
    exact EndP.of (.inr rfl) [] (P := (((poV l) : Int) = 0) ∧ ((decide (¬ poV l = 0)) = false)) (by kernel_rfl) ⟨(by first | omega | rfl | assumption | (simp; done) | (simp; omega)), (by first | rfl | assumption | exact decide_eq_true (by omega) | exact decide_eq_false (by omega) | (simp; omega))⟩

end Go.Proofs.YtcmldnahohmieaaDoor
