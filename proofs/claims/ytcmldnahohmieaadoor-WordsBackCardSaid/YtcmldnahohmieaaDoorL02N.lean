/- Numbers. No statement is proved here. -/
import Derived.Test.YtcmldnahohmieaaDoorW02N
namespace Go.Proofs.YtcmldnahohmieaaDoor
open Go.ChangeShapes Go.WideShapes Go.ChangeAt Go.RowKit
set_option linter.unusedVariables false
set_option linter.unusedSimpArgs false

theorem pre_y {l : List Int} (h : 1 ≤ l.length) (h0 : List.getD l 0 0 = 45) : (ByteArray.toList (strOfNums (List.take 1 l)) == ByteArray.toList (strOfNums [45])) = true := by
  cases l with
  | nil => cases h
  | cons x xs => have : x = 45 := h0; subst this; rw [ByteArray.toList_eq, ByteArray.toList_eq]; rfl
theorem pre_n {l : List Int} (hb : Byt l) (h : 1 ≤ l.length) (h0 : ¬ List.getD l 0 0 = 45) : (ByteArray.toList (strOfNums (List.take 1 l)) == ByteArray.toList (strOfNums [45])) = false := by
  refine str_n (hb.take 1) (Byt.cons (by omega) Byt.nil) ?_
  intro e
  cases l with
  | nil => cases h
  | cons x xs =>
    have e2 : [x] = [45] := e
    injection e2 with e3
    exact h0 e3

set_option maxHeartbeats 4000000 in
set_option maxRecDepth 100000 in
theorem V_has (l : List Int) (hy : Byt l) (hb : List.length l ≤ 200) : Fun 67 [.c (.d (D.lit (.string (strOfNums l)))), .c (.d (D.lit (.string (strOfNums ([45] : List Int)))))] (toG []) 0 (.e (.c (.d (D.lit (.bool (decide (1 ≤ List.length l ∧ List.getD l 0 0 = 45))))))) (toG []) 0 := by
  refine Fun.mk (n := 18) Tryd.func67 rfl rfl (Nat.le_of_ble_eq_true rfl) ?_
  intro cx hcx
  refine AW.rgs [.no] [0, 1] [] (P := True) (l' := [(0, .e (.c (.d (D.lit (.string (strOfNums l)))))), (1, .e (.c (.d (D.lit (.string (strOfNums ([45] : List Int)))))))]) (g' := []) (nx' := 0) (by kernel_rfl) trivial ?_
  by_cases hx1 : ((1 : Int) ≤ (((List.length l) : Nat) : Int))
  · by_cases hx2 : ((List.getD l 0 0) = 45)
    · refine AW.rgs [.no, .i (((List.length l) : Nat) : Int), .no, .i 1, .b true, .no, .no, .no, .i 1, .ds [D.lit (.string (strOfNums (List.take 1 l)))], .no, .b true, .no, .no] [4] [] (P := (((ByteArray.size (strOfNums l) : Nat) : Int) = ((((List.length l) : Nat) : Int) : Int)) ∧ (((ByteArray.size (strOfNums ([45] : List Int)) : Nat) : Int) = (1 : Int)) ∧ (((1 : Int) ≤ (((List.length l) : Nat) : Int))) ∧ (((ByteArray.size (strOfNums ([45] : List Int)) : Nat) : Int) = (1 : Int)) ∧ (∀ w : World, (Instr.slice 9 (.string (strOfNums l)) none (some (.int .i64 (1 : Int))) none).run Tryd.prog w = .ok (.string (strOfNums (List.take 1 l))) w) ∧ ((ByteArray.toList (strOfNums (List.take 1 l)) == ByteArray.toList (strOfNums ([45] : List Int))) = true)) (l' := [(4, bV true)]) (g' := []) (nx' := 0) (by kernel_rfl) ⟨(by rw [strOfNums_size]), (by kernel_rfl), (by omega), (by kernel_rfl), (slS_h (by rfl) (1 : Nat) rfl (by first | omega | decide) rfl), (pre_y (by omega) (by omega))⟩ ?_
      refine AW.ret ?_
      exact EndP.of (.inr rfl) [] (P := ((decide (1 ≤ List.length l ∧ List.getD l 0 0 = 45)) = true)) (by kernel_rfl) (by first | exact decide_eq_true (by omega) | exact decide_eq_false (by omega))
    · refine AW.rgs [.no, .i (((List.length l) : Nat) : Int), .no, .i 1, .b true, .no, .no, .no, .i 1, .ds [D.lit (.string (strOfNums (List.take 1 l)))], .no, .b false, .no, .no] [4] [] (P := (((ByteArray.size (strOfNums l) : Nat) : Int) = ((((List.length l) : Nat) : Int) : Int)) ∧ (((ByteArray.size (strOfNums ([45] : List Int)) : Nat) : Int) = (1 : Int)) ∧ (((1 : Int) ≤ (((List.length l) : Nat) : Int))) ∧ (((ByteArray.size (strOfNums ([45] : List Int)) : Nat) : Int) = (1 : Int)) ∧ (∀ w : World, (Instr.slice 9 (.string (strOfNums l)) none (some (.int .i64 (1 : Int))) none).run Tryd.prog w = .ok (.string (strOfNums (List.take 1 l))) w) ∧ ((ByteArray.toList (strOfNums (List.take 1 l)) == ByteArray.toList (strOfNums ([45] : List Int))) = false)) (l' := [(4, bV false)]) (g' := []) (nx' := 0) (by kernel_rfl) ⟨(by rw [strOfNums_size]), (by kernel_rfl), (by omega), (by kernel_rfl), (slS_h (by rfl) (1 : Nat) rfl (by first | omega | decide) rfl), (pre_n hy (by omega) (by omega))⟩ ?_
      refine AW.ret ?_
      exact EndP.of (.inr rfl) [] (P := ((decide (1 ≤ List.length l ∧ List.getD l 0 0 = 45)) = false)) (by kernel_rfl) (by first | exact decide_eq_true (by omega) | exact decide_eq_false (by omega))
  · refine AW.rgs [.no, .i (((List.length l) : Nat) : Int), .no, .i 1, .b false, .no, .no, .no] [4] [] (P := (((ByteArray.size (strOfNums l) : Nat) : Int) = ((((List.length l) : Nat) : Int) : Int)) ∧ (((ByteArray.size (strOfNums ([45] : List Int)) : Nat) : Int) = (1 : Int)) ∧ (¬ ((1 : Int) ≤ (((List.length l) : Nat) : Int)))) (l' := [(4, bV false)]) (g' := []) (nx' := 0) (by kernel_rfl) ⟨(by rw [strOfNums_size]), (by kernel_rfl), (by omega)⟩ ?_
    refine AW.ret ?_
    exact EndP.of (.inr rfl) [] (P := ((decide (1 ≤ List.length l ∧ List.getD l 0 0 = 45)) = false)) (by kernel_rfl) (by first | exact decide_eq_true (by omega) | exact decide_eq_false (by omega))

set_option maxHeartbeats 4000000 in
set_option maxRecDepth 100000 in
theorem V_cut_n (l : List Int) (hy : Byt l) (hb : List.length l ≤ 200) (hq0 : ¬ (1 ≤ List.length l ∧ List.getD l 0 0 = 45)) : Fun 56 [.c (.d (D.lit (.string (strOfNums l)))), .c (.d (D.lit (.string (strOfNums ([45] : List Int)))))] (toG []) 0 (.tup [.c (.d (D.lit (.string (strOfNums l)))), .c (.d (D.lit (.bool false)))]) (toG []) 0 := by
  refine Fun.mk (n := 15) Tryd.func56 rfl rfl (Nat.le_of_ble_eq_true rfl) ?_
  intro cx hcx
  refine AW.rgs [.no, .no] [0, 1] [] (P := True) (l' := [(0, .e (.c (.d (D.lit (.string (strOfNums l)))))), (1, .e (.c (.d (D.lit (.string (strOfNums ([45] : List Int)))))))]) (g' := []) (nx' := 0) (by kernel_rfl) trivial ?_
  refine AW.seq ?_
  refine AW.rgs [.no, .no, .call [] (bV false) [] 0 [] none, .no] [0, 1, 9] [] (P := (Fun 67 [.c (.d (D.lit (.string (strOfNums l)))), .c (.d (D.lit (.string (strOfNums ([45] : List Int)))))] (toG []) 0 (bV false) (toG []) 0)) (l' := [(0, .e (.c (.d (D.lit (.string (strOfNums l)))))), (1, .e (.c (.d (D.lit (.string (strOfNums ([45] : List Int))))))), (9, bV true)]) (g' := []) (nx' := 0) (by kernel_rfl) (by have h0 := (V_has l (show Byt l by with_reducible assumption) (by omega)); rw [(decide_eq_false hq0)] at h0; exact h0) ?_
  refine AW.cond_t (.tmp (Look.of rfl)) ?_
  refine AW.rgs [.no, .no, .no] [4, 5] [] (P := True) (l' := [(4, .e (.c (.d (D.lit (.string (strOfNums l)))))), (5, bV false)]) (g' := []) (nx' := 0) (by kernel_rfl) trivial ?_
  refine AW.ret ?_
  exact EndP.of (.inr rfl) [] (P := ((.string (strOfNums l) : Value) = .string (strOfNums l)) ∧ (false = false)) (by kernel_rfl) ⟨rfl, rfl⟩

set_option maxHeartbeats 4000000 in
set_option maxRecDepth 100000 in
theorem V_cut_y (l : List Int) (hy : Byt l) (hb : List.length l ≤ 200) (hq0 : 1 ≤ List.length l ∧ List.getD l 0 0 = 45) : Fun 56 [.c (.d (D.lit (.string (strOfNums l)))), .c (.d (D.lit (.string (strOfNums ([45] : List Int)))))] (toG []) 0 (.tup [.c (.d (D.lit (.string (strOfNums (List.drop 1 l))))), .c (.d (D.lit (.bool true)))]) (toG []) 0 := by
  refine Fun.mk (n := 15) Tryd.func56 rfl rfl (Nat.le_of_ble_eq_true rfl) ?_
  intro cx hcx
  refine AW.rgs [.no, .no] [0, 1] [] (P := True) (l' := [(0, .e (.c (.d (D.lit (.string (strOfNums l)))))), (1, .e (.c (.d (D.lit (.string (strOfNums ([45] : List Int)))))))]) (g' := []) (nx' := 0) (by kernel_rfl) trivial ?_
  refine AW.seq ?_
  refine AW.rgs [.no, .no, .call [] (bV true) [] 0 [] none, .no] [0, 1, 9] [] (P := (Fun 67 [.c (.d (D.lit (.string (strOfNums l)))), .c (.d (D.lit (.string (strOfNums ([45] : List Int)))))] (toG []) 0 (bV true) (toG []) 0)) (l' := [(0, .e (.c (.d (D.lit (.string (strOfNums l)))))), (1, .e (.c (.d (D.lit (.string (strOfNums ([45] : List Int))))))), (9, bV false)]) (g' := []) (nx' := 0) (by kernel_rfl) (by have h0 := (V_has l (show Byt l by with_reducible assumption) (by omega)); rw [(decide_eq_true hq0)] at h0; exact h0) ?_
  refine AW.cond_f (.tmp (Look.of rfl)) ?_
  refine AW.skip ?_
  refine AW.rgs [.no, .no, .i 1, .ds [D.lit (.string (strOfNums (List.drop 1 l)))], .no, .no] [4, 5] [] (P := (((ByteArray.size (strOfNums ([45] : List Int)) : Nat) : Int) = (1 : Int)) ∧ (∀ w : World, (Instr.slice 9 (.string (strOfNums l)) (some (.int .i64 (1 : Int))) none none).run Tryd.prog w = .ok (.string (strOfNums (List.drop 1 l))) w)) (l' := [(4, .e (.c (.d (D.lit (.string (strOfNums (List.drop 1 l))))))), (5, bV true)]) (g' := []) (nx' := 0) (by kernel_rfl) ⟨(by kernel_rfl), (slS_l (by rfl) (1 : Nat) rfl (by first | omega | decide) rfl)⟩ ?_
  refine AW.ret ?_
  exact EndP.of (.inr rfl) [] (P := ((.string (strOfNums (List.drop 1 l)) : Value) = .string (strOfNums (List.drop 1 l))) ∧ (true = true)) (by kernel_rfl) ⟨rfl, rfl⟩

set_option maxHeartbeats 4000000 in
set_option maxRecDepth 100000 in
theorem V_cut2_n (l : List Int) (hy : Byt l) (hb : List.length l ≤ 200) (hq0 : ¬ (1 ≤ List.length l ∧ List.getD l 0 0 = 45)) : Fun 35 [.c (.d (D.lit (.string (strOfNums l)))), .c (.d (D.lit (.string (strOfNums ([45] : List Int)))))] (toG []) 0 (.tup [.c (.d (D.lit (.string (strOfNums l)))), .c (.d (D.lit (.bool false)))]) (toG []) 0 := by
  refine Fun.mk (n := 11) Tryd.func35 rfl rfl (Nat.le_of_ble_eq_true rfl) ?_
  intro cx hcx
  refine AW.rgs [.no, .no] [0, 1] [] (P := True) (l' := [(0, .e (.c (.d (D.lit (.string (strOfNums l)))))), (1, .e (.c (.d (D.lit (.string (strOfNums ([45] : List Int)))))))]) (g' := []) (nx' := 0) (by kernel_rfl) trivial ?_
  refine AW.rgs [.no, .no, .call [] (.tup [.c (.d (D.lit (.string (strOfNums l)))), .c (.d (D.lit (.bool false)))]) [] 0 [] none, .no, .no, .no, .no] [4, 5] [] (P := (_)) (l' := [(4, .e (.c (.d (D.lit (.string (strOfNums l)))))), (5, bV false)]) (g' := []) (nx' := 0) (by kernel_rfl) (V_cut_n l (show Byt l by with_reducible assumption) (by omega) (by first | omega | with_reducible assumption | (simp only [bsD_len, stD_len, List.length_append, List.length_cons, List.length_nil, List.length_take, List.length_drop, List.length_replicate, List.length_set] <;> omega) | rfl | assumption)) ?_
  refine AW.ret ?_
  exact EndP.of (.inr rfl) [] (P := ((.string (strOfNums l) : Value) = .string (strOfNums l)) ∧ (false = false)) (by kernel_rfl) ⟨rfl, rfl⟩

set_option maxHeartbeats 4000000 in
set_option maxRecDepth 100000 in
theorem V_cut2_y (l : List Int) (hy : Byt l) (hb : List.length l ≤ 200) (hq0 : 1 ≤ List.length l ∧ List.getD l 0 0 = 45) : Fun 35 [.c (.d (D.lit (.string (strOfNums l)))), .c (.d (D.lit (.string (strOfNums ([45] : List Int)))))] (toG []) 0 (.tup [.c (.d (D.lit (.string (strOfNums (List.drop 1 l))))), .c (.d (D.lit (.bool true)))]) (toG []) 0 := by
  refine Fun.mk (n := 11) Tryd.func35 rfl rfl (Nat.le_of_ble_eq_true rfl) ?_
  intro cx hcx
  refine AW.rgs [.no, .no] [0, 1] [] (P := True) (l' := [(0, .e (.c (.d (D.lit (.string (strOfNums l)))))), (1, .e (.c (.d (D.lit (.string (strOfNums ([45] : List Int)))))))]) (g' := []) (nx' := 0) (by kernel_rfl) trivial ?_
  refine AW.rgs [.no, .no, .call [] (.tup [.c (.d (D.lit (.string (strOfNums (List.drop 1 l))))), .c (.d (D.lit (.bool true)))]) [] 0 [] none, .no, .no, .no, .no] [4, 5] [] (P := (_)) (l' := [(4, .e (.c (.d (D.lit (.string (strOfNums (List.drop 1 l))))))), (5, bV true)]) (g' := []) (nx' := 0) (by kernel_rfl) (V_cut_y l (show Byt l by with_reducible assumption) (by omega) (by first | omega | with_reducible assumption | (simp only [bsD_len, stD_len, List.length_append, List.length_cons, List.length_nil, List.length_take, List.length_drop, List.length_replicate, List.length_set] <;> omega) | rfl | assumption)) ?_
  refine AW.ret ?_
  exact EndP.of (.inr rfl) [] (P := ((.string (strOfNums (List.drop 1 l)) : Value) = .string (strOfNums (List.drop 1 l))) ∧ (true = true)) (by kernel_rfl) ⟨rfl, rfl⟩

set_option maxHeartbeats 4000000 in
set_option maxRecDepth 100000 in
theorem V_isnt (l : List Int) (hy : Byt l) (hb : List.length l ≤ 200) : Fun 36 [.c (.d (D.lit (.string (strOfNums l)))), .c (.d (D.lit (.bool true)))] (toG []) 0 (.e (.c (.d (D.lit (.bool (okD l true)))))) (toG []) 0 := by
  refine Fun.mk (n := 33) Tryd.func36 rfl rfl (Nat.le_of_ble_eq_true rfl) ?_
  intro cx hcx
  refine AW.rgs [.no] [0, 1] [] (P := True) (l' := [(0, .e (.c (.d (D.lit (.string (strOfNums l)))))), (1, bV true)]) (g' := []) (nx' := 0) (by kernel_rfl) trivial ?_
  refine AW.seq ?_
  refine AW.rgs [.no, .i (((List.length l) : Nat) : Int), .no] [0, 1, 7, 8] [] (P := (((ByteArray.size (strOfNums l) : Nat) : Int) = ((((List.length l) : Nat) : Int) : Int))) (l' := [(0, .e (.c (.d (D.lit (.string (strOfNums l)))))), (1, bV true), (7, iV (((List.length l) : Nat) : Int)), (8, iV 0)]) (g' := []) (nx' := 0) (by kernel_rfl) (by rw [strOfNums_size]) ?_
  refine AW.block ?_
  refine AW.loopE 0 hcx (fun (x : {x : Nat // match x with | k => (k ≤ List.length l) ∧ (∀ j, j < k → 48 ≤ List.getD l j 0 ∧ List.getD l j 0 ≤ 57)}) => match x with | ⟨k, _⟩ => (⟨[(0, .e (.c (.d (D.lit (.string (strOfNums l)))))), (1, bV true), (7, iV (((List.length l) : Nat) : Int)), (8, iV ((k : Nat) : Int))], [], 0⟩ : ES)) (fun (x : {x : Nat // match x with | k => (k ≤ List.length l) ∧ (∀ j, j < k → 48 ≤ List.getD l j 0 ∧ List.getD l j 0 ≤ 57)}) => match x with | ⟨k, _⟩ => List.length l - k) ⟨(0 : Nat), (show ((0 : Nat) ≤ List.length l) ∧ (∀ j, j < (0 : Nat) → 48 ≤ List.getD l j 0 ∧ List.getD l j 0 ≤ 57) from ⟨(by first | omega | assumption | simp), (fun j hj => absurd hj (Nat.not_lt_zero j))⟩)⟩ [] (P := ((.string (strOfNums l) : Value) = .string (strOfNums l)) ∧ (true = true) ∧ (((((List.length l) : Nat) : Int) : Int) = (((List.length l) : Nat) : Int)) ∧ ((0 : Int) = 0)) (by kernel_rfl) ⟨rfl, (by first | rfl | assumption | simp), rfl, rfl⟩ ?_
  rintro ⟨k, hinv0⟩
  obtain ⟨hk, ha⟩ : (k ≤ List.length l) ∧ (∀ j, j < k → 48 ≤ List.getD l j 0 ∧ List.getD l j 0 ≤ 57) := hinv0
  refine AW.es (l := [(0, .e (.c (.d (D.lit (.string (strOfNums l)))))), (1, bV true), (7, iV (((List.length l) : Nat) : Int)), (8, iV ((k : Nat) : Int))]) (g := []) (nx := 0) rfl rfl rfl ?_
  by_cases hx1 : (((k : Nat) : Int) < (((List.length l) : Nat) : Int))
  · refine AW.rgs [.b true] [0, 1, 7, 8, 9] [] (P := ((((k : Nat) : Int) < (((List.length l) : Nat) : Int)))) (l' := [(0, .e (.c (.d (D.lit (.string (strOfNums l)))))), (1, bV true), (7, iV (((List.length l) : Nat) : Int)), (8, iV ↑k), (9, bV true)]) (g' := []) (nx' := 0) (by kernel_rfl) (by omega) ?_
    refine AW.seq ?_
    refine AW.cond_t (.tmp (Look.of rfl)) ?_
    refine AW.skip ?_
    refine AW.seq ?_
    refine AW.block ?_
    refine AW.rgs [.no, .no] [0, 1, 5, 7, 8] [] (P := True) (l' := [(0, .e (.c (.d (D.lit (.string (strOfNums l)))))), (1, bV true), (5, iV ↑k), (7, iV (((List.length l) : Nat) : Int)), (8, iV ↑k)]) (g' := []) (nx' := 0) (by kernel_rfl) trivial ?_
    by_cases hx3 : ((List.getD l k 0) < 48)
    · have hx4 : 0 ≤ (List.getD l k 0) ∧ (List.getD l k 0) ≤ 255 := Byt.at (show Byt l by with_reducible assumption) _ (by first | omega | (simp only [List.length_drop, List.length_take]; omega))
      refine AW.rgs [.no, .no, .i (List.getD l k 0), .b true, .no, .no] [0, 1, 7, 8, 20] [] (P := (strAt (strOfNums l) (((k : Nat) : Int) : Int) = some ((List.getD l k 0) : Int)) ∧ (((List.getD l k 0) < 48))) (l' := [(0, .e (.c (.d (D.lit (.string (strOfNums l)))))), (1, bV true), (7, iV (((List.length l) : Nat) : Int)), (8, iV ↑k), (20, bV true)]) (g' := []) (nx' := 0) (by kernel_rfl) ⟨(by have h9 := byte_at (l := l) (Byt.at (show Byt l by with_reducible assumption)) (k := k) (by first | omega | (simp only [List.length_drop, List.length_take]; omega)); exact h9), (by omega)⟩ ?_
      refine AW.cond_t (.tmp (Look.of rfl)) ?_
      refine AW.rgs [.no] [4] [] (P := True) (l' := [(4, bV false)]) (g' := []) (nx' := 0) (by kernel_rfl) trivial ?_
      refine AW.ret ?_
      exact EndP.of (.inr rfl) [] (P := ((okD l true) = false)) (by kernel_rfl) (by first | exact ok_dig (k := k) (by omega) (by omega) | exact ok_nul (by assumption) | exact ok_fst (by assumption) (by omega) | exact ok_good (fun j hj => ha j (by omega)) (by assumption) (by omega) (by omega))
    · by_cases hx7 : ((57 : Int) < (List.getD l k 0))
      · have hx8 : 0 ≤ (List.getD l k 0) ∧ (List.getD l k 0) ≤ 255 := Byt.at (show Byt l by with_reducible assumption) _ (by first | omega | (simp only [List.length_drop, List.length_take]; omega))
        refine AW.rgs [.no, .no, .i (List.getD l k 0), .b false, .no, .no, .no, .i (List.getD l k 0), .b true, .no] [0, 1, 7, 8, 20] [] (P := (strAt (strOfNums l) (((k : Nat) : Int) : Int) = some ((List.getD l k 0) : Int)) ∧ (¬ ((List.getD l k 0) < 48)) ∧ (strAt (strOfNums l) (((k : Nat) : Int) : Int) = some ((List.getD l k 0) : Int)) ∧ (((57 : Int) < (List.getD l k 0)))) (l' := [(0, .e (.c (.d (D.lit (.string (strOfNums l)))))), (1, bV true), (7, iV (((List.length l) : Nat) : Int)), (8, iV ↑k), (20, bV true)]) (g' := []) (nx' := 0) (by kernel_rfl) ⟨(by have h9 := byte_at (l := l) (Byt.at (show Byt l by with_reducible assumption)) (k := k) (by first | omega | (simp only [List.length_drop, List.length_take]; omega)); exact h9), (by omega), (by have h9 := byte_at (l := l) (Byt.at (show Byt l by with_reducible assumption)) (k := k) (by first | omega | (simp only [List.length_drop, List.length_take]; omega)); exact h9), (by omega)⟩ ?_
        refine AW.cond_t (.tmp (Look.of rfl)) ?_
        refine AW.rgs [.no] [4] [] (P := True) (l' := [(4, bV false)]) (g' := []) (nx' := 0) (by kernel_rfl) trivial ?_
        refine AW.ret ?_
        exact EndP.of (.inr rfl) [] (P := ((okD l true) = false)) (by kernel_rfl) (by first | exact ok_dig (k := k) (by omega) (by omega) | exact ok_nul (by assumption) | exact ok_fst (by assumption) (by omega) | exact ok_good (fun j hj => ha j (by omega)) (by assumption) (by omega) (by omega))
      · have hx10 : 0 ≤ (List.getD l k 0) ∧ (List.getD l k 0) ≤ 255 := Byt.at (show Byt l by with_reducible assumption) _ (by first | omega | (simp only [List.length_drop, List.length_take]; omega))
        refine AW.rgs [.no, .no, .i (List.getD l k 0), .b false, .no, .no, .no, .i (List.getD l k 0), .b false, .no] [0, 1, 7, 8, 20] [] (P := (strAt (strOfNums l) (((k : Nat) : Int) : Int) = some ((List.getD l k 0) : Int)) ∧ (¬ ((List.getD l k 0) < 48)) ∧ (strAt (strOfNums l) (((k : Nat) : Int) : Int) = some ((List.getD l k 0) : Int)) ∧ (¬ ((57 : Int) < (List.getD l k 0)))) (l' := [(0, .e (.c (.d (D.lit (.string (strOfNums l)))))), (1, bV true), (7, iV (((List.length l) : Nat) : Int)), (8, iV ↑k), (20, bV false)]) (g' := []) (nx' := 0) (by kernel_rfl) ⟨(by have h9 := byte_at (l := l) (Byt.at (show Byt l by with_reducible assumption)) (k := k) (by first | omega | (simp only [List.length_drop, List.length_take]; omega)); exact h9), (by omega), (by have h9 := byte_at (l := l) (Byt.at (show Byt l by with_reducible assumption)) (k := k) (by first | omega | (simp only [List.length_drop, List.length_take]; omega)); exact h9), (by omega)⟩ ?_
        refine AW.cond_f (.tmp (Look.of rfl)) ?_
        refine AW.skip ?_
        refine AW.rg [.w, .no] [0, 1, 7, 8] [] (P := ((-9223372036854775808) ≤ (((k : Nat) : Int) + 1) ∧ (((k : Nat) : Int) + 1) ≤ 9223372036854775807)) (l' := [(0, .e (.c (.d (D.lit (.string (strOfNums l)))))), (1, bV true), (7, iV (((List.length l) : Nat) : Int)), (8, iV (↑k + 1))]) (g' := []) (nx' := 0) (by kernel_rfl) ⟨by omega, by omega⟩ ?_
        exact Rd.of ⟨((k + 1) : Nat), (show ((k + 1) ≤ List.length l) ∧ (∀ j, j < (k + 1) → 48 ≤ List.getD l j 0 ∧ List.getD l j 0 ≤ 57) from ⟨(by first | omega | assumption | simp), (fun j hj => (Nat.lt_succ_iff_lt_or_eq.1 hj).elim (ha j) (fun e9 => by subst e9; omega))⟩)⟩ [] (P := ((.string (strOfNums l) : Value) = .string (strOfNums l)) ∧ (true = true) ∧ (((((List.length l) : Nat) : Int) : Int) = (((List.length l) : Nat) : Int)) ∧ (((((k + 1) : Nat) : Int) : Int) = (((k : Nat) : Int) + 1))) (by kernel_rfl) ⟨rfl, (by first | rfl | assumption | simp), rfl, (by first | rfl | omega | assumption | (simp; done) | (simp; omega))⟩ (show List.length l - (k + 1) < List.length l - k from (by first | omega | (show _ < _; simp; omega)))
  · refine AW.rgs [.b false] [0, 1, 7, 8, 9] [] (P := (¬ (((k : Nat) : Int) < (((List.length l) : Nat) : Int)))) (l' := [(0, .e (.c (.d (D.lit (.string (strOfNums l)))))), (1, bV true), (7, iV (((List.length l) : Nat) : Int)), (8, iV ↑k), (9, bV false)]) (g' := []) (nx' := 0) (by kernel_rfl) (by omega) ?_
    refine AW.seq ?_
    refine AW.cond_f (.tmp (Look.of rfl)) ?_
    refine AW.exit ?_
    refine AW.seq ?_
    by_cases hx12 : (l = ([48] : List Int))
    · refine AW.rgs [.no, .b true] [0, 1, 23] [] (P := ((ByteArray.toList (strOfNums l) == ByteArray.toList (ByteArray.mk #[48])) = true)) (l' := [(0, .e (.c (.d (D.lit (.string (strOfNums l)))))), (1, bV true), (23, bV true)]) (g' := []) (nx' := 0) (by kernel_rfl) (str_y (b := [48]) (by first | assumption)) ?_
      refine AW.cond_t (.tmp (Look.of rfl)) ?_
      refine AW.rgs [.no, .no, .no] [4] [] (P := True) (l' := [(4, bV false)]) (g' := []) (nx' := 0) (by kernel_rfl) trivial ?_
      refine AW.ret ?_
      exact EndP.of (.inr rfl) [] (P := ((okD l true) = false)) (by kernel_rfl) (by first | exact ok_dig (k := k) (by omega) (by omega) | exact ok_nul (by assumption) | exact ok_fst (by assumption) (by omega) | exact ok_good (fun j hj => ha j (by omega)) (by assumption) (by omega) (by omega))
    · refine AW.rgs [.no, .b false] [0, 1, 23] [] (P := ((ByteArray.toList (strOfNums l) == ByteArray.toList (ByteArray.mk #[48])) = false)) (l' := [(0, .e (.c (.d (D.lit (.string (strOfNums l)))))), (1, bV true), (23, bV false)]) (g' := []) (nx' := 0) (by kernel_rfl) (str_n (b := [48]) (show Byt l by with_reducible assumption) (Byt.cons (by omega) Byt.nil) (by assumption)) ?_
      refine AW.cond_f (.tmp (Look.of rfl)) ?_
      refine AW.skip ?_
      by_cases hx13 : ((List.length l) = 0)
      · refine AW.rgs [.no, .b false, .no, .no, .no] [4] [] (P := ((!(ByteArray.toList (strOfNums l) == ByteArray.toList (ByteArray.mk #[]))) = false)) (l' := [(4, bV false)]) (g' := []) (nx' := 0) (by kernel_rfl) (by rw [show (ByteArray.toList (strOfNums l) == ByteArray.toList (ByteArray.mk #[])) = true from (str_0 (by omega))]; rfl) ?_
        refine AW.ret ?_
        exact EndP.of (.inr rfl) [] (P := ((okD l true) = false)) (by kernel_rfl) (by first | exact ok_dig (k := k) (by omega) (by omega) | exact ok_nul (by assumption) | exact ok_fst (by assumption) (by omega) | exact ok_good (fun j hj => ha j (by omega)) (by assumption) (by omega) (by omega))
      · by_cases hx15 : ((List.getD l 0 0) ≠ 48)
        · have hx16 : 0 ≤ (List.getD l 0 0) ∧ (List.getD l 0 0) ≤ 255 := Byt.at (show Byt l by with_reducible assumption) _ (by first | omega | (simp only [List.length_drop, List.length_take]; omega))
          refine AW.rgs [.no, .b true, .no, .no, .i (List.getD l 0 0), .b true, .no, .no] [4] [] (P := ((!(ByteArray.toList (strOfNums l) == ByteArray.toList (ByteArray.mk #[]))) = true) ∧ (strAt (strOfNums l) (0 : Int) = some ((List.getD l 0 0) : Int)) ∧ (((List.getD l 0 0) ≠ 48))) (l' := [(4, bV true)]) (g' := []) (nx' := 0) (by kernel_rfl) ⟨(by rw [show (ByteArray.toList (strOfNums l) == ByteArray.toList (ByteArray.mk #[])) = false from (str_n0 (by omega))]; rfl), (by have h9 := byte_at (l := l) (Byt.at (show Byt l by with_reducible assumption)) (k := 0) (by first | omega | (simp only [List.length_drop, List.length_take]; omega)); exact h9), (by omega)⟩ ?_
          refine AW.ret ?_
          exact EndP.of (.inr rfl) [] (P := ((okD l true) = true)) (by kernel_rfl) (by first | exact ok_dig (k := k) (by omega) (by omega) | exact ok_nul (by assumption) | exact ok_fst (by assumption) (by omega) | exact ok_good (fun j hj => ha j (by omega)) (by assumption) (by omega) (by omega))
        · have hx17 : 0 ≤ (List.getD l 0 0) ∧ (List.getD l 0 0) ≤ 255 := Byt.at (show Byt l by with_reducible assumption) _ (by first | omega | (simp only [List.length_drop, List.length_take]; omega))
          refine AW.rgs [.no, .b true, .no, .no, .i (List.getD l 0 0), .b false, .no, .no] [4] [] (P := ((!(ByteArray.toList (strOfNums l) == ByteArray.toList (ByteArray.mk #[]))) = true) ∧ (strAt (strOfNums l) (0 : Int) = some ((List.getD l 0 0) : Int)) ∧ (¬ ((List.getD l 0 0) ≠ 48))) (l' := [(4, bV false)]) (g' := []) (nx' := 0) (by kernel_rfl) ⟨(by rw [show (ByteArray.toList (strOfNums l) == ByteArray.toList (ByteArray.mk #[])) = false from (str_n0 (by omega))]; rfl), (by have h9 := byte_at (l := l) (Byt.at (show Byt l by with_reducible assumption)) (k := 0) (by first | omega | (simp only [List.length_drop, List.length_take]; omega)); exact h9), (by omega)⟩ ?_
          refine AW.ret ?_
          exact EndP.of (.inr rfl) [] (P := ((okD l true) = false)) (by kernel_rfl) (by first | exact ok_dig (k := k) (by omega) (by omega) | exact ok_nul (by assumption) | exact ok_fst (by assumption) (by omega) | exact ok_good (fun j hj => ha j (by omega)) (by assumption) (by omega) (by omega))

set_option maxHeartbeats 4000000 in
set_option maxRecDepth 100000 in
theorem V_isnf (l : List Int) (hy : Byt l) (hb : List.length l ≤ 200) : Fun 36 [.c (.d (D.lit (.string (strOfNums l)))), .c (.d (D.lit (.bool false)))] (toG []) 0 (.e (.c (.d (D.lit (.bool (okD l false)))))) (toG []) 0 := by
  refine Fun.mk (n := 33) Tryd.func36 rfl rfl (Nat.le_of_ble_eq_true rfl) ?_
  intro cx hcx
  refine AW.rgs [.no] [0, 1] [] (P := True) (l' := [(0, .e (.c (.d (D.lit (.string (strOfNums l)))))), (1, bV false)]) (g' := []) (nx' := 0) (by kernel_rfl) trivial ?_
  refine AW.seq ?_
  refine AW.rgs [.no, .i (((List.length l) : Nat) : Int), .no] [0, 1, 7, 8] [] (P := (((ByteArray.size (strOfNums l) : Nat) : Int) = ((((List.length l) : Nat) : Int) : Int))) (l' := [(0, .e (.c (.d (D.lit (.string (strOfNums l)))))), (1, bV false), (7, iV (((List.length l) : Nat) : Int)), (8, iV 0)]) (g' := []) (nx' := 0) (by kernel_rfl) (by rw [strOfNums_size]) ?_
  refine AW.block ?_
  refine AW.loopE 0 hcx (fun (x : {x : Nat // match x with | k => (k ≤ List.length l) ∧ (∀ j, j < k → 48 ≤ List.getD l j 0 ∧ List.getD l j 0 ≤ 57)}) => match x with | ⟨k, _⟩ => (⟨[(0, .e (.c (.d (D.lit (.string (strOfNums l)))))), (1, bV false), (7, iV (((List.length l) : Nat) : Int)), (8, iV ((k : Nat) : Int))], [], 0⟩ : ES)) (fun (x : {x : Nat // match x with | k => (k ≤ List.length l) ∧ (∀ j, j < k → 48 ≤ List.getD l j 0 ∧ List.getD l j 0 ≤ 57)}) => match x with | ⟨k, _⟩ => List.length l - k) ⟨(0 : Nat), (show ((0 : Nat) ≤ List.length l) ∧ (∀ j, j < (0 : Nat) → 48 ≤ List.getD l j 0 ∧ List.getD l j 0 ≤ 57) from ⟨(by first | omega | assumption | simp), (fun j hj => absurd hj (Nat.not_lt_zero j))⟩)⟩ [] (P := ((.string (strOfNums l) : Value) = .string (strOfNums l)) ∧ (false = false) ∧ (((((List.length l) : Nat) : Int) : Int) = (((List.length l) : Nat) : Int)) ∧ ((0 : Int) = 0)) (by kernel_rfl) ⟨rfl, (by first | rfl | assumption | simp), rfl, rfl⟩ ?_
  rintro ⟨k, hinv0⟩
  obtain ⟨hk, ha⟩ : (k ≤ List.length l) ∧ (∀ j, j < k → 48 ≤ List.getD l j 0 ∧ List.getD l j 0 ≤ 57) := hinv0
  refine AW.es (l := [(0, .e (.c (.d (D.lit (.string (strOfNums l)))))), (1, bV false), (7, iV (((List.length l) : Nat) : Int)), (8, iV ((k : Nat) : Int))]) (g := []) (nx := 0) rfl rfl rfl ?_
  by_cases hx1 : (((k : Nat) : Int) < (((List.length l) : Nat) : Int))
  · refine AW.rgs [.b true] [0, 1, 7, 8, 9] [] (P := ((((k : Nat) : Int) < (((List.length l) : Nat) : Int)))) (l' := [(0, .e (.c (.d (D.lit (.string (strOfNums l)))))), (1, bV false), (7, iV (((List.length l) : Nat) : Int)), (8, iV ↑k), (9, bV true)]) (g' := []) (nx' := 0) (by kernel_rfl) (by omega) ?_
    refine AW.seq ?_
    refine AW.cond_t (.tmp (Look.of rfl)) ?_
    refine AW.skip ?_
    refine AW.seq ?_
    refine AW.block ?_
    refine AW.rgs [.no, .no] [0, 1, 5, 7, 8] [] (P := True) (l' := [(0, .e (.c (.d (D.lit (.string (strOfNums l)))))), (1, bV false), (5, iV ↑k), (7, iV (((List.length l) : Nat) : Int)), (8, iV ↑k)]) (g' := []) (nx' := 0) (by kernel_rfl) trivial ?_
    by_cases hx3 : ((List.getD l k 0) < 48)
    · have hx4 : 0 ≤ (List.getD l k 0) ∧ (List.getD l k 0) ≤ 255 := Byt.at (show Byt l by with_reducible assumption) _ (by first | omega | (simp only [List.length_drop, List.length_take]; omega))
      refine AW.rgs [.no, .no, .i (List.getD l k 0), .b true, .no, .no] [0, 1, 7, 8, 20] [] (P := (strAt (strOfNums l) (((k : Nat) : Int) : Int) = some ((List.getD l k 0) : Int)) ∧ (((List.getD l k 0) < 48))) (l' := [(0, .e (.c (.d (D.lit (.string (strOfNums l)))))), (1, bV false), (7, iV (((List.length l) : Nat) : Int)), (8, iV ↑k), (20, bV true)]) (g' := []) (nx' := 0) (by kernel_rfl) ⟨(by have h9 := byte_at (l := l) (Byt.at (show Byt l by with_reducible assumption)) (k := k) (by first | omega | (simp only [List.length_drop, List.length_take]; omega)); exact h9), (by omega)⟩ ?_
      refine AW.cond_t (.tmp (Look.of rfl)) ?_
      refine AW.rgs [.no] [4] [] (P := True) (l' := [(4, bV false)]) (g' := []) (nx' := 0) (by kernel_rfl) trivial ?_
      refine AW.ret ?_
      exact EndP.of (.inr rfl) [] (P := ((okD l false) = false)) (by kernel_rfl) (by first | exact ok_dig (k := k) (by omega) (by omega) | exact ok_nul (by assumption) | exact ok_fst (by assumption) (by omega) | exact ok_good (fun j hj => ha j (by omega)) (by assumption) (by omega) (by omega))
    · by_cases hx7 : ((57 : Int) < (List.getD l k 0))
      · have hx8 : 0 ≤ (List.getD l k 0) ∧ (List.getD l k 0) ≤ 255 := Byt.at (show Byt l by with_reducible assumption) _ (by first | omega | (simp only [List.length_drop, List.length_take]; omega))
        refine AW.rgs [.no, .no, .i (List.getD l k 0), .b false, .no, .no, .no, .i (List.getD l k 0), .b true, .no] [0, 1, 7, 8, 20] [] (P := (strAt (strOfNums l) (((k : Nat) : Int) : Int) = some ((List.getD l k 0) : Int)) ∧ (¬ ((List.getD l k 0) < 48)) ∧ (strAt (strOfNums l) (((k : Nat) : Int) : Int) = some ((List.getD l k 0) : Int)) ∧ (((57 : Int) < (List.getD l k 0)))) (l' := [(0, .e (.c (.d (D.lit (.string (strOfNums l)))))), (1, bV false), (7, iV (((List.length l) : Nat) : Int)), (8, iV ↑k), (20, bV true)]) (g' := []) (nx' := 0) (by kernel_rfl) ⟨(by have h9 := byte_at (l := l) (Byt.at (show Byt l by with_reducible assumption)) (k := k) (by first | omega | (simp only [List.length_drop, List.length_take]; omega)); exact h9), (by omega), (by have h9 := byte_at (l := l) (Byt.at (show Byt l by with_reducible assumption)) (k := k) (by first | omega | (simp only [List.length_drop, List.length_take]; omega)); exact h9), (by omega)⟩ ?_
        refine AW.cond_t (.tmp (Look.of rfl)) ?_
        refine AW.rgs [.no] [4] [] (P := True) (l' := [(4, bV false)]) (g' := []) (nx' := 0) (by kernel_rfl) trivial ?_
        refine AW.ret ?_
        exact EndP.of (.inr rfl) [] (P := ((okD l false) = false)) (by kernel_rfl) (by first | exact ok_dig (k := k) (by omega) (by omega) | exact ok_nul (by assumption) | exact ok_fst (by assumption) (by omega) | exact ok_good (fun j hj => ha j (by omega)) (by assumption) (by omega) (by omega))
      · have hx10 : 0 ≤ (List.getD l k 0) ∧ (List.getD l k 0) ≤ 255 := Byt.at (show Byt l by with_reducible assumption) _ (by first | omega | (simp only [List.length_drop, List.length_take]; omega))
        refine AW.rgs [.no, .no, .i (List.getD l k 0), .b false, .no, .no, .no, .i (List.getD l k 0), .b false, .no] [0, 1, 7, 8, 20] [] (P := (strAt (strOfNums l) (((k : Nat) : Int) : Int) = some ((List.getD l k 0) : Int)) ∧ (¬ ((List.getD l k 0) < 48)) ∧ (strAt (strOfNums l) (((k : Nat) : Int) : Int) = some ((List.getD l k 0) : Int)) ∧ (¬ ((57 : Int) < (List.getD l k 0)))) (l' := [(0, .e (.c (.d (D.lit (.string (strOfNums l)))))), (1, bV false), (7, iV (((List.length l) : Nat) : Int)), (8, iV ↑k), (20, bV false)]) (g' := []) (nx' := 0) (by kernel_rfl) ⟨(by have h9 := byte_at (l := l) (Byt.at (show Byt l by with_reducible assumption)) (k := k) (by first | omega | (simp only [List.length_drop, List.length_take]; omega)); exact h9), (by omega), (by have h9 := byte_at (l := l) (Byt.at (show Byt l by with_reducible assumption)) (k := k) (by first | omega | (simp only [List.length_drop, List.length_take]; omega)); exact h9), (by omega)⟩ ?_
        refine AW.cond_f (.tmp (Look.of rfl)) ?_
        refine AW.skip ?_
        refine AW.rg [.w, .no] [0, 1, 7, 8] [] (P := ((-9223372036854775808) ≤ (((k : Nat) : Int) + 1) ∧ (((k : Nat) : Int) + 1) ≤ 9223372036854775807)) (l' := [(0, .e (.c (.d (D.lit (.string (strOfNums l)))))), (1, bV false), (7, iV (((List.length l) : Nat) : Int)), (8, iV (↑k + 1))]) (g' := []) (nx' := 0) (by kernel_rfl) ⟨by omega, by omega⟩ ?_
        exact Rd.of ⟨((k + 1) : Nat), (show ((k + 1) ≤ List.length l) ∧ (∀ j, j < (k + 1) → 48 ≤ List.getD l j 0 ∧ List.getD l j 0 ≤ 57) from ⟨(by first | omega | assumption | simp), (fun j hj => (Nat.lt_succ_iff_lt_or_eq.1 hj).elim (ha j) (fun e9 => by subst e9; omega))⟩)⟩ [] (P := ((.string (strOfNums l) : Value) = .string (strOfNums l)) ∧ (false = false) ∧ (((((List.length l) : Nat) : Int) : Int) = (((List.length l) : Nat) : Int)) ∧ (((((k + 1) : Nat) : Int) : Int) = (((k : Nat) : Int) + 1))) (by kernel_rfl) ⟨rfl, (by first | rfl | assumption | simp), rfl, (by first | rfl | omega | assumption | (simp; done) | (simp; omega))⟩ (show List.length l - (k + 1) < List.length l - k from (by first | omega | (show _ < _; simp; omega)))
  · refine AW.rgs [.b false] [0, 1, 7, 8, 9] [] (P := (¬ (((k : Nat) : Int) < (((List.length l) : Nat) : Int)))) (l' := [(0, .e (.c (.d (D.lit (.string (strOfNums l)))))), (1, bV false), (7, iV (((List.length l) : Nat) : Int)), (8, iV ↑k), (9, bV false)]) (g' := []) (nx' := 0) (by kernel_rfl) (by omega) ?_
    refine AW.seq ?_
    refine AW.cond_f (.tmp (Look.of rfl)) ?_
    refine AW.exit ?_
    refine AW.seq ?_
    by_cases hx12 : (l = ([48] : List Int))
    · refine AW.rgs [.no, .b true] [0, 1, 23] [] (P := ((ByteArray.toList (strOfNums l) == ByteArray.toList (ByteArray.mk #[48])) = true)) (l' := [(0, .e (.c (.d (D.lit (.string (strOfNums l)))))), (1, bV false), (23, bV true)]) (g' := []) (nx' := 0) (by kernel_rfl) (str_y (b := [48]) (by first | assumption)) ?_
      refine AW.cond_t (.tmp (Look.of rfl)) ?_
      refine AW.rgs [.no, .no, .no] [4] [] (P := True) (l' := [(4, bV true)]) (g' := []) (nx' := 0) (by kernel_rfl) trivial ?_
      refine AW.ret ?_
      exact EndP.of (.inr rfl) [] (P := ((okD l false) = true)) (by kernel_rfl) (by first | exact ok_dig (k := k) (by omega) (by omega) | exact ok_nul (by assumption) | exact ok_fst (by assumption) (by omega) | exact ok_good (fun j hj => ha j (by omega)) (by assumption) (by omega) (by omega))
    · refine AW.rgs [.no, .b false] [0, 1, 23] [] (P := ((ByteArray.toList (strOfNums l) == ByteArray.toList (ByteArray.mk #[48])) = false)) (l' := [(0, .e (.c (.d (D.lit (.string (strOfNums l)))))), (1, bV false), (23, bV false)]) (g' := []) (nx' := 0) (by kernel_rfl) (str_n (b := [48]) (show Byt l by with_reducible assumption) (Byt.cons (by omega) Byt.nil) (by assumption)) ?_
      refine AW.cond_f (.tmp (Look.of rfl)) ?_
      refine AW.skip ?_
      by_cases hx13 : ((List.length l) = 0)
      · refine AW.rgs [.no, .b false, .no, .no, .no] [4] [] (P := ((!(ByteArray.toList (strOfNums l) == ByteArray.toList (ByteArray.mk #[]))) = false)) (l' := [(4, bV false)]) (g' := []) (nx' := 0) (by kernel_rfl) (by rw [show (ByteArray.toList (strOfNums l) == ByteArray.toList (ByteArray.mk #[])) = true from (str_0 (by omega))]; rfl) ?_
        refine AW.ret ?_
        exact EndP.of (.inr rfl) [] (P := ((okD l false) = false)) (by kernel_rfl) (by first | exact ok_dig (k := k) (by omega) (by omega) | exact ok_nul (by assumption) | exact ok_fst (by assumption) (by omega) | exact ok_good (fun j hj => ha j (by omega)) (by assumption) (by omega) (by omega))
      · by_cases hx15 : ((List.getD l 0 0) ≠ 48)
        · have hx16 : 0 ≤ (List.getD l 0 0) ∧ (List.getD l 0 0) ≤ 255 := Byt.at (show Byt l by with_reducible assumption) _ (by first | omega | (simp only [List.length_drop, List.length_take]; omega))
          refine AW.rgs [.no, .b true, .no, .no, .i (List.getD l 0 0), .b true, .no, .no] [4] [] (P := ((!(ByteArray.toList (strOfNums l) == ByteArray.toList (ByteArray.mk #[]))) = true) ∧ (strAt (strOfNums l) (0 : Int) = some ((List.getD l 0 0) : Int)) ∧ (((List.getD l 0 0) ≠ 48))) (l' := [(4, bV true)]) (g' := []) (nx' := 0) (by kernel_rfl) ⟨(by rw [show (ByteArray.toList (strOfNums l) == ByteArray.toList (ByteArray.mk #[])) = false from (str_n0 (by omega))]; rfl), (by have h9 := byte_at (l := l) (Byt.at (show Byt l by with_reducible assumption)) (k := 0) (by first | omega | (simp only [List.length_drop, List.length_take]; omega)); exact h9), (by omega)⟩ ?_
          refine AW.ret ?_
          exact EndP.of (.inr rfl) [] (P := ((okD l false) = true)) (by kernel_rfl) (by first | exact ok_dig (k := k) (by omega) (by omega) | exact ok_nul (by assumption) | exact ok_fst (by assumption) (by omega) | exact ok_good (fun j hj => ha j (by omega)) (by assumption) (by omega) (by omega))
        · have hx17 : 0 ≤ (List.getD l 0 0) ∧ (List.getD l 0 0) ≤ 255 := Byt.at (show Byt l by with_reducible assumption) _ (by first | omega | (simp only [List.length_drop, List.length_take]; omega))
          refine AW.rgs [.no, .b true, .no, .no, .i (List.getD l 0 0), .b false, .no, .no] [4] [] (P := ((!(ByteArray.toList (strOfNums l) == ByteArray.toList (ByteArray.mk #[]))) = true) ∧ (strAt (strOfNums l) (0 : Int) = some ((List.getD l 0 0) : Int)) ∧ (¬ ((List.getD l 0 0) ≠ 48))) (l' := [(4, bV false)]) (g' := []) (nx' := 0) (by kernel_rfl) ⟨(by rw [show (ByteArray.toList (strOfNums l) == ByteArray.toList (ByteArray.mk #[])) = false from (str_n0 (by omega))]; rfl), (by have h9 := byte_at (l := l) (Byt.at (show Byt l by with_reducible assumption)) (k := 0) (by first | omega | (simp only [List.length_drop, List.length_take]; omega)); exact h9), (by omega)⟩ ?_
          refine AW.ret ?_
          exact EndP.of (.inr rfl) [] (P := ((okD l false) = false)) (by kernel_rfl) (by first | exact ok_dig (k := k) (by omega) (by omega) | exact ok_nul (by assumption) | exact ok_fst (by assumption) (by omega) | exact ok_good (fun j hj => ha j (by omega)) (by assumption) (by omega) (by omega))

set_option maxHeartbeats 4000000 in
set_option maxRecDepth 100000 in
theorem V_num (l : List Int) (hy : Byt l) (hb : List.length l ≤ 200) : Fun 10 [.c (.d (D.lit (.string (strOfNums l))))] (toG []) 0 (.tup [iE (nuV l), iE (nuE l)]) (toG []) 0 := by
  have hng : (1 ≤ List.length l ∧ List.getD l 0 0 = 45 ∧ ngN l = 1) ∨ (¬ (1 ≤ List.length l ∧ List.getD l 0 0 = 45) ∧ ngN l = 0) := ng_cases l
  have hdl : List.length (List.drop 1 l) = List.length l - 1 := by rw [List.length_drop]
  refine Fun.mk (n := 37) Tryd.func10 rfl rfl (Nat.le_of_ble_eq_true rfl) ?_
  intro cx hcx
  refine AW.rgs [.no, .no] [0] [] (P := True) (l' := [(0, .e (.c (.d (D.lit (.string (strOfNums l))))))]) (g' := []) (nx' := 0) (by kernel_rfl) trivial ?_
  by_cases hx1 : (¬ (((1 : Nat) ≤ (List.length l)) ∧ ((List.getD l 0 0) = 45)))
  · refine AW.rgs [.no, .call [] (.tup [.c (.d (D.lit (.string (strOfNums l)))), .c (.d (D.lit (.bool false)))]) [] 0 [] none, .no, .no, .no, .no, .no] [4, 5] [] (P := (_)) (l' := [(4, .e (.c (.d (D.lit (.string (strOfNums l)))))), (5, bV false)]) (g' := []) (nx' := 0) (by kernel_rfl) (V_cut2_n l (show Byt l by with_reducible assumption) (by omega) (by first | omega | with_reducible assumption | (simp only [bsD_len, stD_len, List.length_append, List.length_cons, List.length_nil, List.length_take, List.length_drop, List.length_replicate, List.length_set] <;> omega) | rfl | assumption)) ?_
    refine AW.seq ?_
    rcases Bool.eq_false_or_eq_true (okD l false) with hx2 | hx2
    · refine AW.rgs [.no, .no, .call [] (bV true) [] 0 [] none, .no] [4, 5, 16] [] (P := (Fun 36 [.c (.d (D.lit (.string (strOfNums l)))), .c (.d (D.lit (.bool false)))] (toG []) 0 (bV true) (toG []) 0)) (l' := [(4, .e (.c (.d (D.lit (.string (strOfNums l)))))), (5, bV false), (16, bV false)]) (g' := []) (nx' := 0) (by kernel_rfl) (by have h0 := (V_isnf l (show Byt l by with_reducible assumption) (by omega)); rw [hx2] at h0; exact h0) ?_
      refine AW.cond_f (.tmp (Look.of rfl)) ?_
      refine AW.skip ?_
      refine AW.rgs [.no] [4, 5, 6] [] (P := True) (l' := [(4, .e (.c (.d (D.lit (.string (strOfNums l)))))), (5, bV false), (6, iV 0)]) (g' := []) (nx' := 0) (by kernel_rfl) trivial ?_
      refine AW.seq ?_
      refine AW.rgs [.no, .i (((List.length l) : Nat) : Int), .no] [4, 5, 6, 18, 19] [] (P := (((ByteArray.size (strOfNums l) : Nat) : Int) = ((((List.length l) : Nat) : Int) : Int))) (l' := [(4, .e (.c (.d (D.lit (.string (strOfNums l)))))), (5, bV false), (6, iV 0), (18, iV (((List.length l) : Nat) : Int)), (19, iV 0)]) (g' := []) (nx' := 0) (by kernel_rfl) (by rw [strOfNums_size]) ?_
      refine AW.block ?_
      refine AW.loopE 0 hcx (fun (x : {x : Nat × Nat // match x with | (k, n) => (k ≤ List.length l) ∧ (n = vaL (List.take k l)) ∧ (n ≤ 9007199254740992)}) => match x with | ⟨(k, n), _⟩ => (⟨[(4, .e (.c (.d (D.lit (.string (strOfNums l)))))), (5, bV false), (6, iV ((n : Nat) : Int)), (18, iV (((List.length l) : Nat) : Int)), (19, iV ((k : Nat) : Int))], [], 0⟩ : ES)) (fun (x : {x : Nat × Nat // match x with | (k, n) => (k ≤ List.length l) ∧ (n = vaL (List.take k l)) ∧ (n ≤ 9007199254740992)}) => match x with | ⟨(k, n), _⟩ => List.length l - k) ⟨((0 : Nat), (0 : Nat)), (show ((0 : Nat) ≤ List.length l) ∧ ((0 : Nat) = vaL (List.take (0 : Nat) l)) ∧ ((0 : Nat) ≤ 9007199254740992) from ⟨(by first | omega | assumption | simp), rfl, (by first | omega | assumption | simp)⟩)⟩ [] (P := ((.string (strOfNums l) : Value) = .string (strOfNums l)) ∧ (false = false) ∧ ((0 : Int) = 0) ∧ (((((List.length l) : Nat) : Int) : Int) = (((List.length l) : Nat) : Int)) ∧ ((0 : Int) = 0)) (by kernel_rfl) ⟨rfl, (by first | rfl | assumption | simp), rfl, rfl, rfl⟩ ?_
      rintro ⟨⟨k, n⟩, hinv0⟩
      obtain ⟨hk, hn, hn2⟩ : (k ≤ List.length l) ∧ (n = vaL (List.take k l)) ∧ (n ≤ 9007199254740992) := hinv0
      refine AW.es (l := [(4, .e (.c (.d (D.lit (.string (strOfNums l)))))), (5, bV false), (6, iV ((n : Nat) : Int)), (18, iV (((List.length l) : Nat) : Int)), (19, iV ((k : Nat) : Int))]) (g := []) (nx := 0) rfl rfl rfl ?_
      by_cases hx3 : (((k : Nat) : Int) < (((List.length l) : Nat) : Int))
      · refine AW.rgs [.b true] [4, 5, 6, 18, 19, 20] [] (P := ((((k : Nat) : Int) < (((List.length l) : Nat) : Int)))) (l' := [(4, .e (.c (.d (D.lit (.string (strOfNums l)))))), (5, bV false), (6, iV ↑n), (18, iV (((List.length l) : Nat) : Int)), (19, iV ↑k), (20, bV true)]) (g' := []) (nx' := 0) (by kernel_rfl) (by omega) ?_
        refine AW.seq ?_
        refine AW.cond_t (.tmp (Look.of rfl)) ?_
        refine AW.skip ?_
        refine AW.seq ?_
        refine AW.block ?_
        refine AW.rgs [.no, .no] [4, 5, 6, 7, 18, 19] [] (P := True) (l' := [(4, .e (.c (.d (D.lit (.string (strOfNums l)))))), (5, bV false), (6, iV ↑n), (7, iV ↑k), (18, iV (((List.length l) : Nat) : Int)), (19, iV ↑k)]) (g' := []) (nx' := 0) (by kernel_rfl) trivial ?_
        have hd9 : (48 ≤ List.getD l k 0 ∧ List.getD l k 0 ≤ 57) := okD_dig (b := false) (by assumption) k (by first | omega | (rw [List.length_drop]; omega))
        have hx4 : 0 ≤ (List.getD l k 0) ∧ (List.getD l k 0) ≤ 255 := Byt.at (show Byt l by with_reducible assumption) _ (by first | omega | (simp only [List.length_drop, List.length_take]; omega))
        refine AW.rgs [.no, .w, .no, .no, .i (List.getD l k 0), .w, .w, .w, .no] [4, 5, 6, 18, 19] [] (P := ((-9223372036854775808) ≤ (((n : Nat) : Int) * 10) ∧ (((n : Nat) : Int) * 10) ≤ 9223372036854775807) ∧ (strAt (strOfNums l) (((k : Nat) : Int) : Int) = some ((List.getD l k 0) : Int)) ∧ (0 ≤ ((List.getD l k 0) - 48) ∧ ((List.getD l k 0) - 48) ≤ 255) ∧ ((-9223372036854775808) ≤ ((List.getD l k 0) - 48) ∧ ((List.getD l k 0) - 48) ≤ 9223372036854775807) ∧ ((-9223372036854775808) ≤ ((((n : Nat) : Int) * 10) + ((List.getD l k 0) - 48)) ∧ ((((n : Nat) : Int) * 10) + ((List.getD l k 0) - 48)) ≤ 9223372036854775807)) (l' := [(4, .e (.c (.d (D.lit (.string (strOfNums l)))))), (5, bV false), (6, iV ((↑n * 10) + ((List.getD l k 0) - 48))), (18, iV (((List.length l) : Nat) : Int)), (19, iV ↑k)]) (g' := []) (nx' := 0) (by kernel_rfl) ⟨⟨by omega, by omega⟩, (by have h9 := byte_at (l := l) (Byt.at (show Byt l by with_reducible assumption)) (k := k) (by first | omega | (simp only [List.length_drop, List.length_take]; omega)); exact h9), ⟨by omega, by omega⟩, ⟨by omega, by omega⟩, ⟨by omega, by omega⟩⟩ ?_
        by_cases hx5 : ((9007199254740992 : Int) < ((((n : Nat) : Int) * 10) + ((List.getD l k 0) - 48)))
        · refine AW.rgs [.no, .b true] [4, 5, 6, 18, 19, 31] [] (P := (((9007199254740992 : Int) < ((((n : Nat) : Int) * 10) + ((List.getD l k 0) - 48))))) (l' := [(4, .e (.c (.d (D.lit (.string (strOfNums l)))))), (5, bV false), (6, iV ((↑n * 10) + ((List.getD l k 0) - 48))), (18, iV (((List.length l) : Nat) : Int)), (19, iV ↑k), (31, bV true)]) (g' := []) (nx' := 0) (by kernel_rfl) (by omega) ?_
          refine AW.cond_t (.tmp (Look.of rfl)) ?_
          refine AW.rgs [.no, .no] [2, 3] [] (P := True) (l' := [(2, iV 0), (3, iV 2)]) (g' := []) (nx' := 0) (by kernel_rfl) trivial ?_
          have hdg : dgL l = l := dg_n (by omega)
          have hv9 := vaL_le (d := l) (k := k)
          have hv8 := vaL_take (d := l) (k := k) (by first | omega | (rw [List.length_drop]; omega))
          have hv7 := vaL_le (d := l) (k := k + 1)
          obtain ⟨hz1, hz2⟩ := nu_big (b := false) (decide_eq_false (show ¬ ngN l = 1 by omega)).symm (by rw [hdg]; assumption) (by rw [hdg]; omega)
          have hz3 : nuV l = 0 := hz2
          refine AW.ret ?_
          exact EndP.of (.inr rfl) [] (P := (((nuV l) : Int) = 0) ∧ (((nuE l) : Int) = 2)) (by kernel_rfl) ⟨(by first | omega | rfl | assumption | (simp; done) | (simp; omega)), (by first | omega | rfl | assumption | (simp; done) | (simp; omega))⟩
        · refine AW.rgs [.no, .b false] [4, 5, 6, 18, 19, 31] [] (P := (¬ ((9007199254740992 : Int) < ((((n : Nat) : Int) * 10) + ((List.getD l k 0) - 48))))) (l' := [(4, .e (.c (.d (D.lit (.string (strOfNums l)))))), (5, bV false), (6, iV ((↑n * 10) + ((List.getD l k 0) - 48))), (18, iV (((List.length l) : Nat) : Int)), (19, iV ↑k), (31, bV false)]) (g' := []) (nx' := 0) (by kernel_rfl) (by omega) ?_
          refine AW.cond_f (.tmp (Look.of rfl)) ?_
          refine AW.skip ?_
          refine AW.rg [.w, .no] [4, 5, 6, 18, 19] [] (P := ((-9223372036854775808) ≤ (((k : Nat) : Int) + 1) ∧ (((k : Nat) : Int) + 1) ≤ 9223372036854775807)) (l' := [(4, .e (.c (.d (D.lit (.string (strOfNums l)))))), (5, bV false), (6, iV ((↑n * 10) + ((List.getD l k 0) - 48))), (18, iV (((List.length l) : Nat) : Int)), (19, iV (↑k + 1))]) (g' := []) (nx' := 0) (by kernel_rfl) ⟨by omega, by omega⟩ ?_
          exact Rd.of ⟨(((k + 1) : Nat), (((n * 10) + (Int.toNat ((List.getD l k 0) - 48))) : Nat)), (show ((k + 1) ≤ List.length l) ∧ (((n * 10) + (Int.toNat ((List.getD l k 0) - 48))) = vaL (List.take (k + 1) l)) ∧ (((n * 10) + (Int.toNat ((List.getD l k 0) - 48))) ≤ 9007199254740992) from ⟨(by first | omega | assumption | simp), (va_step hn (by first | omega | (rw [List.length_drop]; omega))), (by first | omega | assumption | simp)⟩)⟩ [] (P := ((.string (strOfNums l) : Value) = .string (strOfNums l)) ∧ (false = false) ∧ ((((((n * 10) + (Int.toNat ((List.getD l k 0) - 48))) : Nat) : Int) : Int) = ((((n : Nat) : Int) * 10) + ((List.getD l k 0) - 48))) ∧ (((((List.length l) : Nat) : Int) : Int) = (((List.length l) : Nat) : Int)) ∧ (((((k + 1) : Nat) : Int) : Int) = (((k : Nat) : Int) + 1))) (by kernel_rfl) ⟨rfl, (by first | rfl | assumption | simp), (by first | rfl | omega | assumption | (simp; done) | (simp; omega)), rfl, (by first | rfl | omega | assumption | (simp; done) | (simp; omega))⟩ (show List.length l - (k + 1) < List.length l - k from (by first | omega | (show _ < _; simp; omega)))
      · refine AW.rgs [.b false] [4, 5, 6, 18, 19, 20] [] (P := (¬ (((k : Nat) : Int) < (((List.length l) : Nat) : Int)))) (l' := [(4, .e (.c (.d (D.lit (.string (strOfNums l)))))), (5, bV false), (6, iV ↑n), (18, iV (((List.length l) : Nat) : Int)), (19, iV ↑k), (20, bV false)]) (g' := []) (nx' := 0) (by kernel_rfl) (by omega) ?_
        refine AW.seq ?_
        refine AW.cond_f (.tmp (Look.of rfl)) ?_
        refine AW.exit ?_
        refine AW.seq ?_
        refine AW.rgs [.no] [6, 33] [] (P := True) (l' := [(6, iV ↑n), (33, bV false)]) (g' := []) (nx' := 0) (by kernel_rfl) trivial ?_
        refine AW.cond_f (.tmp (Look.of rfl)) ?_
        refine AW.skip ?_
        refine AW.rgs [.no, .no, .no] [2, 3] [] (P := True) (l' := [(2, iV ↑n), (3, iV 0)]) (g' := []) (nx' := 0) (by kernel_rfl) trivial ?_
        have hdg : dgL l = l := dg_n (by omega)
        have hv9 := vaL_le (d := l) (k := k)
        have hv6 : vaL (List.take k l) = vaL l := by rw [List.take_of_length_le (by first | omega | (rw [List.length_drop]; omega))]
        obtain ⟨hz1, hz2⟩ := nu_ok (b := false) (decide_eq_false (show ¬ ngN l = 1 by omega)).symm (by rw [hdg]; assumption) (by rw [hdg]; omega)
        have hz3 : nuV l = ((vaL l : Nat) : Int) := hz2.trans (by rw [hdg]; rw [if_neg (show ¬ ngN l = 1 by omega)])
        refine AW.ret ?_
        exact EndP.of (.inr rfl) [] (P := (((nuV l) : Int) = ((n : Nat) : Int)) ∧ (((nuE l) : Int) = 0)) (by kernel_rfl) ⟨(by first | omega | rfl | assumption | (simp; done) | (simp; omega)), (by first | omega | rfl | assumption | (simp; done) | (simp; omega))⟩
    · refine AW.rgs [.no, .no, .call [] (bV false) [] 0 [] none, .no] [4, 5, 16] [] (P := (Fun 36 [.c (.d (D.lit (.string (strOfNums l)))), .c (.d (D.lit (.bool false)))] (toG []) 0 (bV false) (toG []) 0)) (l' := [(4, .e (.c (.d (D.lit (.string (strOfNums l)))))), (5, bV false), (16, bV true)]) (g' := []) (nx' := 0) (by kernel_rfl) (by have h0 := (V_isnf l (show Byt l by with_reducible assumption) (by omega)); rw [hx2] at h0; exact h0) ?_
      refine AW.cond_t (.tmp (Look.of rfl)) ?_
      refine AW.rgs [.no, .no] [2, 3] [] (P := True) (l' := [(2, iV 0), (3, iV 5)]) (g' := []) (nx' := 0) (by kernel_rfl) trivial ?_
      have hdg : dgL l = l := dg_n (by omega)
      obtain ⟨hz1, hz2⟩ := nu_bad (b := false) (decide_eq_false (show ¬ ngN l = 1 by omega)).symm (by rw [hdg]; assumption)
      have hz3 : nuV l = 0 := hz2
      refine AW.ret ?_
      exact EndP.of (.inr rfl) [] (P := (((nuV l) : Int) = 0) ∧ (((nuE l) : Int) = 5)) (by kernel_rfl) ⟨(by first | omega | rfl | assumption | (simp; done) | (simp; omega)), (by first | omega | rfl | assumption | (simp; done) | (simp; omega))⟩
  · refine AW.rgs [.no, .call [] (.tup [.c (.d (D.lit (.string (strOfNums (List.drop 1 l))))), .c (.d (D.lit (.bool true)))]) [] 0 [] none, .no, .no, .no, .no, .no] [4, 5] [] (P := (_)) (l' := [(4, .e (.c (.d (D.lit (.string (strOfNums (List.drop 1 l))))))), (5, bV true)]) (g' := []) (nx' := 0) (by kernel_rfl) (V_cut2_y l (show Byt l by with_reducible assumption) (by omega) (by first | omega | with_reducible assumption | (simp only [bsD_len, stD_len, List.length_append, List.length_cons, List.length_nil, List.length_take, List.length_drop, List.length_replicate, List.length_set] <;> omega) | rfl | assumption)) ?_
    refine AW.seq ?_
    rcases Bool.eq_false_or_eq_true (okD (List.drop 1 l) true) with hx6 | hx6
    · refine AW.rgs [.no, .no, .call [] (bV true) [] 0 [] none, .no] [4, 5, 16] [] (P := (Fun 36 [.c (.d (D.lit (.string (strOfNums (List.drop 1 l))))), .c (.d (D.lit (.bool true)))] (toG []) 0 (bV true) (toG []) 0)) (l' := [(4, .e (.c (.d (D.lit (.string (strOfNums (List.drop 1 l))))))), (5, bV true), (16, bV false)]) (g' := []) (nx' := 0) (by kernel_rfl) (by have h0 := (V_isnt (List.drop 1 l) (Byt.drop (show Byt l by with_reducible assumption) _) (by first | omega | with_reducible assumption | (simp only [bsD_len, stD_len, List.length_append, List.length_cons, List.length_nil, List.length_take, List.length_drop, List.length_replicate, List.length_set] <;> omega) | rfl | assumption)); rw [hx6] at h0; exact h0) ?_
      refine AW.cond_f (.tmp (Look.of rfl)) ?_
      refine AW.skip ?_
      refine AW.rgs [.no] [4, 5, 6] [] (P := True) (l' := [(4, .e (.c (.d (D.lit (.string (strOfNums (List.drop 1 l))))))), (5, bV true), (6, iV 0)]) (g' := []) (nx' := 0) (by kernel_rfl) trivial ?_
      refine AW.seq ?_
      refine AW.rgs [.no, .i (((List.length (List.drop 1 l)) : Nat) : Int), .no] [4, 5, 6, 18, 19] [] (P := (((ByteArray.size (strOfNums (List.drop 1 l)) : Nat) : Int) = ((((List.length (List.drop 1 l)) : Nat) : Int) : Int))) (l' := [(4, .e (.c (.d (D.lit (.string (strOfNums (List.drop 1 l))))))), (5, bV true), (6, iV 0), (18, iV (((List.length (List.drop 1 l)) : Nat) : Int)), (19, iV 0)]) (g' := []) (nx' := 0) (by kernel_rfl) (by rw [strOfNums_size]) ?_
      refine AW.block ?_
      refine AW.loopE 0 hcx (fun (x : {x : Nat × Nat // match x with | (k, n) => (k ≤ List.length (List.drop 1 l)) ∧ (n = vaL (List.take k (List.drop 1 l))) ∧ (n ≤ 9007199254740992)}) => match x with | ⟨(k, n), _⟩ => (⟨[(4, .e (.c (.d (D.lit (.string (strOfNums (List.drop 1 l))))))), (5, bV true), (6, iV ((n : Nat) : Int)), (18, iV (((List.length (List.drop 1 l)) : Nat) : Int)), (19, iV ((k : Nat) : Int))], [], 0⟩ : ES)) (fun (x : {x : Nat × Nat // match x with | (k, n) => (k ≤ List.length (List.drop 1 l)) ∧ (n = vaL (List.take k (List.drop 1 l))) ∧ (n ≤ 9007199254740992)}) => match x with | ⟨(k, n), _⟩ => List.length (List.drop 1 l) - k) ⟨((0 : Nat), (0 : Nat)), (show ((0 : Nat) ≤ List.length (List.drop 1 l)) ∧ ((0 : Nat) = vaL (List.take (0 : Nat) (List.drop 1 l))) ∧ ((0 : Nat) ≤ 9007199254740992) from ⟨(by first | omega | assumption | simp), rfl, (by first | omega | assumption | simp)⟩)⟩ [] (P := ((.string (strOfNums (List.drop 1 l)) : Value) = .string (strOfNums (List.drop 1 l))) ∧ (true = true) ∧ ((0 : Int) = 0) ∧ (((((List.length (List.drop 1 l)) : Nat) : Int) : Int) = (((List.length (List.drop 1 l)) : Nat) : Int)) ∧ ((0 : Int) = 0)) (by kernel_rfl) ⟨rfl, (by first | rfl | assumption | simp), rfl, rfl, rfl⟩ ?_
      rintro ⟨⟨k, n⟩, hinv0⟩
      obtain ⟨hk, hn, hn2⟩ : (k ≤ List.length (List.drop 1 l)) ∧ (n = vaL (List.take k (List.drop 1 l))) ∧ (n ≤ 9007199254740992) := hinv0
      refine AW.es (l := [(4, .e (.c (.d (D.lit (.string (strOfNums (List.drop 1 l))))))), (5, bV true), (6, iV ((n : Nat) : Int)), (18, iV (((List.length (List.drop 1 l)) : Nat) : Int)), (19, iV ((k : Nat) : Int))]) (g := []) (nx := 0) rfl rfl rfl ?_
      by_cases hx7 : (((k : Nat) : Int) < (((List.length (List.drop 1 l)) : Nat) : Int))
      · refine AW.rgs [.b true] [4, 5, 6, 18, 19, 20] [] (P := ((((k : Nat) : Int) < (((List.length (List.drop 1 l)) : Nat) : Int)))) (l' := [(4, .e (.c (.d (D.lit (.string (strOfNums (List.drop 1 l))))))), (5, bV true), (6, iV ↑n), (18, iV (((List.length (List.drop 1 l)) : Nat) : Int)), (19, iV ↑k), (20, bV true)]) (g' := []) (nx' := 0) (by kernel_rfl) (by omega) ?_
        refine AW.seq ?_
        refine AW.cond_t (.tmp (Look.of rfl)) ?_
        refine AW.skip ?_
        refine AW.seq ?_
        refine AW.block ?_
        refine AW.rgs [.no, .no] [4, 5, 6, 7, 18, 19] [] (P := True) (l' := [(4, .e (.c (.d (D.lit (.string (strOfNums (List.drop 1 l))))))), (5, bV true), (6, iV ↑n), (7, iV ↑k), (18, iV (((List.length (List.drop 1 l)) : Nat) : Int)), (19, iV ↑k)]) (g' := []) (nx' := 0) (by kernel_rfl) trivial ?_
        have hd9 : (48 ≤ List.getD (List.drop 1 l) k 0 ∧ List.getD (List.drop 1 l) k 0 ≤ 57) := okD_dig (b := true) (by assumption) k (by first | omega | (rw [List.length_drop]; omega))
        have hx8 : 0 ≤ (List.getD (List.drop 1 l) k 0) ∧ (List.getD (List.drop 1 l) k 0) ≤ 255 := Byt.at (Byt.drop (show Byt l by with_reducible assumption) _) _ (by first | omega | (simp only [List.length_drop, List.length_take]; omega))
        refine AW.rgs [.no, .w, .no, .no, .i (List.getD (List.drop 1 l) k 0), .w, .w, .w, .no] [4, 5, 6, 18, 19] [] (P := ((-9223372036854775808) ≤ (((n : Nat) : Int) * 10) ∧ (((n : Nat) : Int) * 10) ≤ 9223372036854775807) ∧ (strAt (strOfNums (List.drop 1 l)) (((k : Nat) : Int) : Int) = some ((List.getD (List.drop 1 l) k 0) : Int)) ∧ (0 ≤ ((List.getD (List.drop 1 l) k 0) - 48) ∧ ((List.getD (List.drop 1 l) k 0) - 48) ≤ 255) ∧ ((-9223372036854775808) ≤ ((List.getD (List.drop 1 l) k 0) - 48) ∧ ((List.getD (List.drop 1 l) k 0) - 48) ≤ 9223372036854775807) ∧ ((-9223372036854775808) ≤ ((((n : Nat) : Int) * 10) + ((List.getD (List.drop 1 l) k 0) - 48)) ∧ ((((n : Nat) : Int) * 10) + ((List.getD (List.drop 1 l) k 0) - 48)) ≤ 9223372036854775807)) (l' := [(4, .e (.c (.d (D.lit (.string (strOfNums (List.drop 1 l))))))), (5, bV true), (6, iV ((↑n * 10) + ((List.getD (List.drop 1 l) k 0) - 48))), (18, iV (((List.length (List.drop 1 l)) : Nat) : Int)), (19, iV ↑k)]) (g' := []) (nx' := 0) (by kernel_rfl) ⟨⟨by omega, by omega⟩, (by have h9 := byte_at (l := (List.drop 1 l)) (Byt.at (Byt.drop (show Byt l by with_reducible assumption) _)) (k := k) (by first | omega | (simp only [List.length_drop, List.length_take]; omega)); exact h9), ⟨by omega, by omega⟩, ⟨by omega, by omega⟩, ⟨by omega, by omega⟩⟩ ?_
        by_cases hx9 : ((9007199254740992 : Int) < ((((n : Nat) : Int) * 10) + ((List.getD (List.drop 1 l) k 0) - 48)))
        · refine AW.rgs [.no, .b true] [4, 5, 6, 18, 19, 31] [] (P := (((9007199254740992 : Int) < ((((n : Nat) : Int) * 10) + ((List.getD (List.drop 1 l) k 0) - 48))))) (l' := [(4, .e (.c (.d (D.lit (.string (strOfNums (List.drop 1 l))))))), (5, bV true), (6, iV ((↑n * 10) + ((List.getD (List.drop 1 l) k 0) - 48))), (18, iV (((List.length (List.drop 1 l)) : Nat) : Int)), (19, iV ↑k), (31, bV true)]) (g' := []) (nx' := 0) (by kernel_rfl) (by omega) ?_
          refine AW.cond_t (.tmp (Look.of rfl)) ?_
          refine AW.rgs [.no, .no] [2, 3] [] (P := True) (l' := [(2, iV 0), (3, iV 2)]) (g' := []) (nx' := 0) (by kernel_rfl) trivial ?_
          have hdg : dgL l = (List.drop 1 l) := dg_y (by omega)
          have hv9 := vaL_le (d := (List.drop 1 l)) (k := k)
          have hv8 := vaL_take (d := (List.drop 1 l)) (k := k) (by first | omega | (rw [List.length_drop]; omega))
          have hv7 := vaL_le (d := (List.drop 1 l)) (k := k + 1)
          obtain ⟨hz1, hz2⟩ := nu_big (b := true) (decide_eq_true (show ngN l = 1 by omega)).symm (by rw [hdg]; assumption) (by rw [hdg]; omega)
          have hz3 : nuV l = 0 := hz2
          refine AW.ret ?_
          exact EndP.of (.inr rfl) [] (P := (((nuV l) : Int) = 0) ∧ (((nuE l) : Int) = 2)) (by kernel_rfl) ⟨(by first | omega | rfl | assumption | (simp; done) | (simp; omega)), (by first | omega | rfl | assumption | (simp; done) | (simp; omega))⟩
        · refine AW.rgs [.no, .b false] [4, 5, 6, 18, 19, 31] [] (P := (¬ ((9007199254740992 : Int) < ((((n : Nat) : Int) * 10) + ((List.getD (List.drop 1 l) k 0) - 48))))) (l' := [(4, .e (.c (.d (D.lit (.string (strOfNums (List.drop 1 l))))))), (5, bV true), (6, iV ((↑n * 10) + ((List.getD (List.drop 1 l) k 0) - 48))), (18, iV (((List.length (List.drop 1 l)) : Nat) : Int)), (19, iV ↑k), (31, bV false)]) (g' := []) (nx' := 0) (by kernel_rfl) (by omega) ?_
          refine AW.cond_f (.tmp (Look.of rfl)) ?_
          refine AW.skip ?_
          refine AW.rg [.w, .no] [4, 5, 6, 18, 19] [] (P := ((-9223372036854775808) ≤ (((k : Nat) : Int) + 1) ∧ (((k : Nat) : Int) + 1) ≤ 9223372036854775807)) (l' := [(4, .e (.c (.d (D.lit (.string (strOfNums (List.drop 1 l))))))), (5, bV true), (6, iV ((↑n * 10) + ((List.getD (List.drop 1 l) k 0) - 48))), (18, iV (((List.length (List.drop 1 l)) : Nat) : Int)), (19, iV (↑k + 1))]) (g' := []) (nx' := 0) (by kernel_rfl) ⟨by omega, by omega⟩ ?_
          exact Rd.of ⟨(((k + 1) : Nat), (((n * 10) + (Int.toNat ((List.getD (List.drop 1 l) k 0) - 48))) : Nat)), (show ((k + 1) ≤ List.length (List.drop 1 l)) ∧ (((n * 10) + (Int.toNat ((List.getD (List.drop 1 l) k 0) - 48))) = vaL (List.take (k + 1) (List.drop 1 l))) ∧ (((n * 10) + (Int.toNat ((List.getD (List.drop 1 l) k 0) - 48))) ≤ 9007199254740992) from ⟨(by first | omega | assumption | simp), (va_step hn (by first | omega | (rw [List.length_drop]; omega))), (by first | omega | assumption | simp)⟩)⟩ [] (P := ((.string (strOfNums (List.drop 1 l)) : Value) = .string (strOfNums (List.drop 1 l))) ∧ (true = true) ∧ ((((((n * 10) + (Int.toNat ((List.getD (List.drop 1 l) k 0) - 48))) : Nat) : Int) : Int) = ((((n : Nat) : Int) * 10) + ((List.getD (List.drop 1 l) k 0) - 48))) ∧ (((((List.length (List.drop 1 l)) : Nat) : Int) : Int) = (((List.length (List.drop 1 l)) : Nat) : Int)) ∧ (((((k + 1) : Nat) : Int) : Int) = (((k : Nat) : Int) + 1))) (by kernel_rfl) ⟨rfl, (by first | rfl | assumption | simp), (by first | rfl | omega | assumption | (simp; done) | (simp; omega)), rfl, (by first | rfl | omega | assumption | (simp; done) | (simp; omega))⟩ (show List.length (List.drop 1 l) - (k + 1) < List.length (List.drop 1 l) - k from (by first | omega | (show _ < _; simp; omega)))
      · refine AW.rgs [.b false] [4, 5, 6, 18, 19, 20] [] (P := (¬ (((k : Nat) : Int) < (((List.length (List.drop 1 l)) : Nat) : Int)))) (l' := [(4, .e (.c (.d (D.lit (.string (strOfNums (List.drop 1 l))))))), (5, bV true), (6, iV ↑n), (18, iV (((List.length (List.drop 1 l)) : Nat) : Int)), (19, iV ↑k), (20, bV false)]) (g' := []) (nx' := 0) (by kernel_rfl) (by omega) ?_
        refine AW.seq ?_
        refine AW.cond_f (.tmp (Look.of rfl)) ?_
        refine AW.exit ?_
        refine AW.seq ?_
        refine AW.rgs [.no] [6, 33] [] (P := True) (l' := [(6, iV ↑n), (33, bV true)]) (g' := []) (nx' := 0) (by kernel_rfl) trivial ?_
        refine AW.cond_t (.tmp (Look.of rfl)) ?_
        refine AW.rgs [.no, .w, .no, .no] [2, 3] [] (P := ((-9223372036854775808) ≤ (0 - ((n : Nat) : Int)) ∧ (0 - ((n : Nat) : Int)) ≤ 9223372036854775807)) (l' := [(2, iV (0 - ↑n)), (3, iV 0)]) (g' := []) (nx' := 0) (by kernel_rfl) ⟨by omega, by omega⟩ ?_
        have hdg : dgL l = (List.drop 1 l) := dg_y (by omega)
        have hv9 := vaL_le (d := (List.drop 1 l)) (k := k)
        have hv6 : vaL (List.take k (List.drop 1 l)) = vaL (List.drop 1 l) := by rw [List.take_of_length_le (by first | omega | (rw [List.length_drop]; omega))]
        obtain ⟨hz1, hz2⟩ := nu_ok (b := true) (decide_eq_true (show ngN l = 1 by omega)).symm (by rw [hdg]; assumption) (by rw [hdg]; omega)
        have hz3 : nuV l = 0 - ((vaL (List.drop 1 l) : Nat) : Int) := hz2.trans (by rw [hdg]; rw [if_pos (show ngN l = 1 by omega)])
        refine AW.ret ?_
        exact EndP.of (.inr rfl) [] (P := (((nuV l) : Int) = (0 - ((n : Nat) : Int))) ∧ (((nuE l) : Int) = 0)) (by kernel_rfl) ⟨(by first | omega | rfl | assumption | (simp; done) | (simp; omega)), (by first | omega | rfl | assumption | (simp; done) | (simp; omega))⟩
    · refine AW.rgs [.no, .no, .call [] (bV false) [] 0 [] none, .no] [4, 5, 16] [] (P := (Fun 36 [.c (.d (D.lit (.string (strOfNums (List.drop 1 l))))), .c (.d (D.lit (.bool true)))] (toG []) 0 (bV false) (toG []) 0)) (l' := [(4, .e (.c (.d (D.lit (.string (strOfNums (List.drop 1 l))))))), (5, bV true), (16, bV true)]) (g' := []) (nx' := 0) (by kernel_rfl) (by have h0 := (V_isnt (List.drop 1 l) (Byt.drop (show Byt l by with_reducible assumption) _) (by first | omega | with_reducible assumption | (simp only [bsD_len, stD_len, List.length_append, List.length_cons, List.length_nil, List.length_take, List.length_drop, List.length_replicate, List.length_set] <;> omega) | rfl | assumption)); rw [hx6] at h0; exact h0) ?_
      refine AW.cond_t (.tmp (Look.of rfl)) ?_
      refine AW.rgs [.no, .no] [2, 3] [] (P := True) (l' := [(2, iV 0), (3, iV 5)]) (g' := []) (nx' := 0) (by kernel_rfl) trivial ?_
      have hdg : dgL l = (List.drop 1 l) := dg_y (by omega)
      obtain ⟨hz1, hz2⟩ := nu_bad (b := true) (decide_eq_true (show ngN l = 1 by omega)).symm (by rw [hdg]; assumption)
      have hz3 : nuV l = 0 := hz2
      refine AW.ret ?_
      exact EndP.of (.inr rfl) [] (P := (((nuV l) : Int) = 0) ∧ (((nuE l) : Int) = 5)) (by kernel_rfl) ⟨(by first | omega | rfl | assumption | (simp; done) | (simp; omega)), (by first | omega | rfl | assumption | (simp; done) | (simp; omega))⟩

end Go.Proofs.YtcmldnahohmieaaDoor
