/- Sets of integers: valid ones. No statement is proved here. -/
import Derived.Test.YthnililaajkppaaL09C
import Derived.Test.YthnililaajkppaaW09U
namespace Go.Proofs.Ythnililaajkppaa
open Go.ChangeShapes Go.WideShapes Go.ChangeAt Go.RowKit
set_option linter.unusedVariables false
set_option linter.unusedSimpArgs false

set_option maxHeartbeats 4000000 in
set_option maxRecDepth 100000 in
theorem U_made (l : List Int) (n : Nat) (hn : List.length l = n) (hy : Byt l) (hb : n ≤ 9223372036854775807) : Fun 18 [.c (.d (D.sl (dI .u8 l) n))] (toG []) 0 (.e (.agg [.d (D.sl (dI .i64 (mdS l n)) (mdN l n))])) (toG []) 0 := by
  refine Fun.mk (n := 46) Try.func18 rfl rfl (Nat.le_of_ble_eq_true rfl) ?_
  intro cx hcx
  refine AW.rgs [.no] [0, 2] [0] (P := True) (l' := [(0, sV .u8 l n), (2, rV 0 0)]) (g' := [(0, some (24, .ds [D.lit (.slice none 0 0)]))]) (nx' := 1) (by kernel_rfl) trivial ?_
  refine AW.rgs [.no] [0, 2, 3] [0] (P := True) (l' := [(0, sV .u8 l n), (2, rV 0 0), (3, nV)]) (g' := [(0, some (24, .ds [D.lit (.slice none 0 0)]))]) (nx' := 1) (by kernel_rfl) trivial ?_
  refine AW.seq ?_
  refine AW.rgs [.no] [0, 2, 3, 4] [0] (P := True) (l' := [(0, sV .u8 l n), (2, rV 0 0), (3, nV), (4, iV 0)]) (g' := [(0, some (24, .ds [D.lit (.slice none 0 0)]))]) (nx' := 1) (by kernel_rfl) trivial ?_
  refine AW.block ?_
  refine AW.adoptS 3 2 46 rfl ?_
  refine AW.loopE 0 hcx (fun (x : {x : Nat × List Int // match x with | (k, o) => (k * 2 ≤ n ∧ k ≤ 20) ∧ (o = maL l k) ∧ (List.length o = k * 2)}) => match x with | ⟨(k, o), _⟩ => (⟨[(0, sV .u8 l n), (2, rV 0 0), (3, oV 2 0 k 2), (4, iV (((k : Nat) : Int) * 2))], [(0, some (24, .ds [D.lit (.slice none 0 0)])), (2, some (46, .ds (dI .i64 o)))], 3⟩ : ES)) (fun (x : {x : Nat × List Int // match x with | (k, o) => (k * 2 ≤ n ∧ k ≤ 20) ∧ (o = maL l k) ∧ (List.length o = k * 2)}) => match x with | ⟨(k, o), _⟩ => 20 - k) ⟨((0 : Nat), (([] : List Int) : List Int)), (show ((0 : Nat) * 2 ≤ n ∧ (0 : Nat) ≤ 20) ∧ (([] : List Int) = maL l (0 : Nat)) ∧ (List.length ([] : List Int) = (0 : Nat) * 2) from ⟨(by first | omega | assumption | simp), rfl, rfl⟩)⟩ [(2, 1)] (P := (((dI .u8 l) : List D) = (dI .u8 l)) ∧ ((n : Nat) = n) ∧ ((0 : Nat) = 0) ∧ ((0 : Nat) = 0) ∧ ((0 : Nat) = 0) ∧ ((0 : Int) = 0) ∧ (([D.lit (.slice none 0 0)] : List D) = [D.lit (.slice none 0 0)]) ∧ (((dI .i64 ([] : List Int)) : List D) = ([] : List D))) (by kernel_rfl) ⟨rfl, rfl, rfl, rfl, rfl, rfl, rfl, (by first | rfl | with_reducible assumption)⟩ ?_
  rintro ⟨⟨k, o⟩, hinv0⟩
  obtain ⟨hk, ho, hol⟩ : (k * 2 ≤ n ∧ k ≤ 20) ∧ (o = maL l k) ∧ (List.length o = k * 2) := hinv0
  refine AW.es (l := [(0, sV .u8 l n), (2, rV 0 0), (3, oV 2 0 k 2), (4, iV (((k : Nat) : Int) * 2))]) (g := [(0, some (24, .ds [D.lit (.slice none 0 0)])), (2, some (46, .ds (dI .i64 o)))]) (nx := 3) rfl rfl rfl ?_
  refine AW.seq ?_
  by_cases hx1 : (((((k : Nat) : Int) * 2) + 1) < ((n : Nat) : Int))
  · by_cases hx2 : ((((k : Nat) : Int) * 2) < 40)
    · refine AW.rgs [.no, .w, .no, .no, .b true, .no, .no, .b true, .no] [0, 2, 3, 4, 15] [0, 2] (P := ((-9223372036854775808) ≤ ((((k : Nat) : Int) * 2) + 1) ∧ ((((k : Nat) : Int) * 2) + 1) ≤ 9223372036854775807) ∧ ((((((k : Nat) : Int) * 2) + 1) < ((n : Nat) : Int))) ∧ (((((k : Nat) : Int) * 2) < 40))) (l' := [(0, sV .u8 l n), (2, rV 0 0), (3, oV 2 0 k 2), (4, iV (↑k * 2)), (15, bV true)]) (g' := [(0, some (24, .ds [D.lit (.slice none 0 0)])), (2, some (46, .ds (dI .i64 o)))]) (nx' := 3) (by kernel_rfl) ⟨⟨by omega, by omega⟩, (by omega), (by omega)⟩ ?_
      refine AW.cond_t (.tmp (Look.of rfl)) ?_
      refine AW.skip ?_
      refine AW.seq ?_
      refine AW.block ?_
      have hx3 : 0 ≤ (List.getD l (k * 2) 0) ∧ (List.getD l (k * 2) 0) ≤ 255 := (show Byt l by with_reducible assumption).at _ (by first | omega | (simp only [bsD_len, List.length_append, List.length_cons, List.length_nil, List.length_take, List.length_drop, List.length_replicate, List.length_set] <;> omega))
      have hx4 : 0 ≤ (List.getD l (k * 2) 0) ∧ (List.getD l (k * 2) 0) ≤ 255 := (show Byt l by with_reducible assumption).at _ (by first | omega | (simp only [bsD_len, List.length_append, List.length_cons, List.length_nil, List.length_take, List.length_drop, List.length_replicate, List.length_set] <;> omega))
      have hx5 : 0 ≤ (List.getD l ((k * 2) + 1) 0) ∧ (List.getD l ((k * 2) + 1) 0) ≤ 255 := (show Byt l by with_reducible assumption).at _ (by first | omega | (simp only [bsD_len, List.length_append, List.length_cons, List.length_nil, List.length_take, List.length_drop, List.length_replicate, List.length_set] <;> omega))
      refine AW.rg [.no, .no, .no, .n (k * 2), .d (D.lit (.int .u8 (List.getD l (k * 2) 0))), .w, .no, .no, .n (k * 2), .d (D.lit (.int .u8 (List.getD l (k * 2) 0))), .w, .no, .no, .w, .n ((k * 2) + 1), .d (D.lit (.int .u8 (List.getD l ((k * 2) + 1) 0))), .ps, .w, .w, .no, .no, .ap none (k + 1) (dI .i64 (o ++ ([(List.getD l (k * 2) 0), ((List.getD l (k * 2) 0) + ((List.getD l ((k * 2) + 1) 0) % 20))] : List Int))), .no] [0, 2, 3, 4] [0, 4] (P := (((((k : Nat) : Int) * 2) : Int) = (((k * 2) : Nat) : Int)) ∧ ((k * 2) < n) ∧ ((List.drop (k * 2) (dI .u8 l))[0]? = some (D.lit (.int .u8 (List.getD l (k * 2) 0)))) ∧ ((-9223372036854775808) ≤ (List.getD l (k * 2) 0) ∧ (List.getD l (k * 2) 0) ≤ 9223372036854775807) ∧ (((((k : Nat) : Int) * 2) : Int) = (((k * 2) : Nat) : Int)) ∧ ((k * 2) < n) ∧ ((List.drop (k * 2) (dI .u8 l))[0]? = some (D.lit (.int .u8 (List.getD l (k * 2) 0)))) ∧ ((-9223372036854775808) ≤ (List.getD l (k * 2) 0) ∧ (List.getD l (k * 2) 0) ≤ 9223372036854775807) ∧ ((-9223372036854775808) ≤ ((((k : Nat) : Int) * 2) + 1) ∧ ((((k : Nat) : Int) * 2) + 1) ≤ 9223372036854775807) ∧ ((((((k : Nat) : Int) * 2) + 1) : Int) = ((((k * 2) + 1) : Nat) : Int)) ∧ (((k * 2) + 1) < n) ∧ ((List.drop ((k * 2) + 1) (dI .u8 l))[0]? = some (D.lit (.int .u8 (List.getD l ((k * 2) + 1) 0)))) ∧ ((0 : Int) ≤ ((List.getD l ((k * 2) + 1) 0) : Int)) ∧ ((0 : Int) < (20 : Int)) ∧ ((-9223372036854775808) ≤ ((List.getD l ((k * 2) + 1) 0) % 20) ∧ ((List.getD l ((k * 2) + 1) 0) % 20) ≤ 9223372036854775807) ∧ ((-9223372036854775808) ≤ ((List.getD l (k * 2) 0) + ((List.getD l ((k * 2) + 1) 0) % 20)) ∧ ((List.getD l (k * 2) 0) + ((List.getD l ((k * 2) + 1) 0) % 20)) ≤ 9223372036854775807) ∧ ([iD (List.getD l (k * 2) 0), iD ((List.getD l (k * 2) 0) + ((List.getD l ((k * 2) + 1) 0) % 20))].length = 1 * 2) ∧ (((dI .i64 o) : List D).length = k * 2) ∧ ((k + 1) * 16 ≤ 140737488355328) ∧ (k + 1 = (k + 1)) ∧ (((dI .i64 o) : List D) ++ [iD (List.getD l (k * 2) 0), iD ((List.getD l (k * 2) 0) + ((List.getD l ((k * 2) + 1) 0) % 20))] = (dI .i64 (o ++ ([(List.getD l (k * 2) 0), ((List.getD l (k * 2) 0) + ((List.getD l ((k * 2) + 1) 0) % 20))] : List Int))))) (l' := [(0, sV .u8 l n), (2, rV 0 0), (3, oV 4 0 (k + 1) 2), (4, iV (↑k * 2))]) (g' := [(0, some (24, .ds [D.lit (.slice none 0 0)])), (4, some (46, .ds (dI .i64 (o ++ ([(List.getD l (k * 2) 0), ((List.getD l (k * 2) 0) + ((List.getD l ((k * 2) + 1) 0) % 20))] : List Int)))))]) (nx' := 5) (by kernel_rfl) ⟨(by first | rfl | omega), (by omega), (dI_at _ _ _ (by first | omega | (simp only [bsD_len, dI_len, List.length_append, List.length_cons, List.length_nil, List.length_take, List.length_drop, List.length_replicate, List.length_set, List.length_map, List.length_reverse, Nat.mul_one] <;> omega) | rfl)), ⟨by omega, by omega⟩, (by first | rfl | omega), (by omega), (dI_at _ _ _ (by first | omega | (simp only [bsD_len, dI_len, List.length_append, List.length_cons, List.length_nil, List.length_take, List.length_drop, List.length_replicate, List.length_set, List.length_map, List.length_reverse, Nat.mul_one] <;> omega) | rfl)), ⟨by omega, by omega⟩, ⟨by omega, by omega⟩, (by first | rfl | omega), (by omega), (dI_at _ _ _ (by first | omega | (simp only [bsD_len, dI_len, List.length_append, List.length_cons, List.length_nil, List.length_take, List.length_drop, List.length_replicate, List.length_set, List.length_map, List.length_reverse, Nat.mul_one] <;> omega) | rfl)), (by omega), (by omega), ⟨by omega, by omega⟩, ⟨by omega, by omega⟩, (by first | omega | (simp only [bsD_len, dI_len, List.length_append, List.length_cons, List.length_nil, List.length_take, List.length_drop, List.length_replicate, List.length_set, List.length_map, List.length_reverse, Nat.mul_one] <;> omega) | rfl), (by first | omega | (simp only [bsD_len, dI_len, List.length_append, List.length_cons, List.length_nil, List.length_take, List.length_drop, List.length_replicate, List.length_set, List.length_map, List.length_reverse, Nat.mul_one] <;> omega) | rfl), (by omega), (by omega), (dI_app .i64 o ([(List.getD l (k * 2) 0), ((List.getD l (k * 2) 0) + ((List.getD l ((k * 2) + 1) 0) % 20))] : List Int))⟩ ?_
      refine AW.rg [.no, .w, .no] [0, 2, 3, 4] [0, 4] (P := ((-9223372036854775808) ≤ ((((k : Nat) : Int) * 2) + 2) ∧ ((((k : Nat) : Int) * 2) + 2) ≤ 9223372036854775807)) (l' := [(0, sV .u8 l n), (2, rV 0 0), (3, oV 4 0 (k + 1) 2), (4, iV ((↑k * 2) + 2))]) (g' := [(0, some (24, .ds [D.lit (.slice none 0 0)])), (4, some (46, .ds (dI .i64 (o ++ ([(List.getD l (k * 2) 0), ((List.getD l (k * 2) 0) + ((List.getD l ((k * 2) + 1) 0) % 20))] : List Int)))))]) (nx' := 5) (by kernel_rfl) ⟨by omega, by omega⟩ ?_
      exact Rd.of ⟨(((k + 1) : Nat), ((o ++ ([(List.getD l (k * 2) 0), ((List.getD l (k * 2) 0) + ((List.getD l ((k * 2) + 1) 0) % 20))] : List Int)) : List Int)), (show ((k + 1) * 2 ≤ n ∧ (k + 1) ≤ 20) ∧ ((o ++ ([(List.getD l (k * 2) 0), ((List.getD l (k * 2) 0) + ((List.getD l ((k * 2) + 1) 0) % 20))] : List Int)) = maL l (k + 1)) ∧ (List.length (o ++ ([(List.getD l (k * 2) 0), ((List.getD l (k * 2) 0) + ((List.getD l ((k * 2) + 1) 0) % 20))] : List Int)) = (k + 1) * 2) from ⟨(by first | omega | assumption | simp), (by rw [ho]; rfl), (by simp only [bsD_len, List.length_append, List.length_cons, List.length_nil] <;> omega)⟩)⟩ [(2, 4)] (P := (((dI .u8 l) : List D) = (dI .u8 l)) ∧ ((n : Nat) = n) ∧ ((0 : Nat) = 0) ∧ ((0 : Nat) = 0) ∧ (((k + 1) : Nat) = (k + 1)) ∧ ((((((k + 1) : Nat) : Int) * 2) : Int) = ((((k : Nat) : Int) * 2) + 2)) ∧ (([D.lit (.slice none 0 0)] : List D) = [D.lit (.slice none 0 0)]) ∧ (((dI .i64 (o ++ ([(List.getD l (k * 2) 0), ((List.getD l (k * 2) 0) + ((List.getD l ((k * 2) + 1) 0) % 20))] : List Int))) : List D) = (dI .i64 (o ++ ([(List.getD l (k * 2) 0), ((List.getD l (k * 2) 0) + ((List.getD l ((k * 2) + 1) 0) % 20))] : List Int))))) (by kernel_rfl) ⟨rfl, rfl, rfl, rfl, rfl, (by first | rfl | omega | assumption | (simp; done) | (simp; omega)), rfl, rfl⟩ (show 20 - (k + 1) < 20 - k from (by first | omega | (show _ < _; simp; omega)))
    · refine AW.rgs [.no, .w, .no, .no, .b true, .no, .no, .b false, .no] [0, 2, 3, 4, 15] [0, 2] (P := ((-9223372036854775808) ≤ ((((k : Nat) : Int) * 2) + 1) ∧ ((((k : Nat) : Int) * 2) + 1) ≤ 9223372036854775807) ∧ ((((((k : Nat) : Int) * 2) + 1) < ((n : Nat) : Int))) ∧ (¬ ((((k : Nat) : Int) * 2) < 40))) (l' := [(0, sV .u8 l n), (2, rV 0 0), (3, oV 2 0 k 2), (4, iV (↑k * 2)), (15, bV false)]) (g' := [(0, some (24, .ds [D.lit (.slice none 0 0)])), (2, some (46, .ds (dI .i64 o)))]) (nx' := 3) (by kernel_rfl) ⟨⟨by omega, by omega⟩, (by omega), (by omega)⟩ ?_
      refine AW.cond_f (.tmp (Look.of rfl)) ?_
      refine AW.exit ?_
      refine AW.freeze 2 (l' := [(0, sV .u8 l n), (2, rV 0 0), (3, sV .i64 o k), (4, iV (((k : Nat) : Int) * 2)), (15, bV false)]) (g' := [(0, some (24, .ds [D.lit (.slice none 0 0)]))]) rfl (FzS.cons rfl (.same _) (FzS.cons rfl (.same _) (FzS.cons rfl (.e (.c (@FzC.own 2 ((dI .i64 o) : List D) 0 k 2 true ((dI .i64 o) : List D) (by rw [List.drop_zero, List.take_of_length_le (by first | omega | (simp only [bsD_len, dI_len, List.length_append, List.length_cons, List.length_nil, List.length_take, List.length_drop, List.length_replicate, List.length_set, List.length_map, List.length_reverse, Nat.mul_one] <;> omega))]) (by first | omega | (simp only [bsD_len, dI_len, List.length_append, List.length_cons, List.length_nil, List.length_take, List.length_drop, List.length_replicate, List.length_set, List.length_map, List.length_reverse, Nat.mul_one] <;> omega) | rfl)))) (FzS.cons rfl (.same _) (FzS.cons rfl (.same _) FzS.nil))))) (FzG.keep rfl rfl FzG.nil) ?_
      have hx6 : ((List.length (mkL o k)) = ((mkN o k) * 2)) := mkL_len o k
      have hx7 : ((((0 : Int) ≤ (mkE o k)) ∧ ((mkE o k) ≤ 3)) ∧ ((mkN o k) ≤ 64)) := mk_rng o k
      refine AW.rgs [.no, .call [] (.tup [.agg [.d (D.sl (dI .i64 (mkL o k)) (mkN o k))], iE (mkE o k)]) [] 0 [] none, .no, .no, .no, .no, .no, .no] [2, 5] [0, 3] (P := (_)) (l' := [(2, rV 0 0), (5, rV 3 0)]) (g' := [(0, some (24, .ds [D.lit (.slice none 0 0)])), (3, some (24, .ds [D.sl (dI .i64 (mkL o k)) (mkN o k)]))]) (nx' := 4) (by kernel_rfl) (U_rMake o k (by omega) (by omega)) ?_
      refine AW.rgs [.no, .no] [2] [0] (P := True) (l' := [(2, rV 0 0)]) (g' := [(0, some (24, .ds [D.sl (dI .i64 (mkL o k)) (mkN o k)]))]) (nx' := 4) (by kernel_rfl) trivial ?_
      obtain ⟨hz1, hz2⟩ := md_fin hn hy ho (by omega)
      refine AW.ret ?_
      exact EndP.of (.inr rfl) [] (P := (((dI .i64 (mdS l n)) : List D) = (dI .i64 (mkL o k))) ∧ (((mdN l n) : Nat) = (mkN o k))) (by kernel_rfl) ⟨(by first | rfl | (rw [hz1]; done) | exact congrArg _ hz1.symm), (by first | omega | rfl)⟩
  · refine AW.rgs [.no, .w, .no, .no, .b false, .no, .no] [0, 2, 3, 4, 15] [0, 2] (P := ((-9223372036854775808) ≤ ((((k : Nat) : Int) * 2) + 1) ∧ ((((k : Nat) : Int) * 2) + 1) ≤ 9223372036854775807) ∧ (¬ (((((k : Nat) : Int) * 2) + 1) < ((n : Nat) : Int)))) (l' := [(0, sV .u8 l n), (2, rV 0 0), (3, oV 2 0 k 2), (4, iV (↑k * 2)), (15, bV false)]) (g' := [(0, some (24, .ds [D.lit (.slice none 0 0)])), (2, some (46, .ds (dI .i64 o)))]) (nx' := 3) (by kernel_rfl) ⟨⟨by omega, by omega⟩, (by omega)⟩ ?_
    refine AW.cond_f (.tmp (Look.of rfl)) ?_
    refine AW.exit ?_
    refine AW.freeze 2 (l' := [(0, sV .u8 l n), (2, rV 0 0), (3, sV .i64 o k), (4, iV (((k : Nat) : Int) * 2)), (15, bV false)]) (g' := [(0, some (24, .ds [D.lit (.slice none 0 0)]))]) rfl (FzS.cons rfl (.same _) (FzS.cons rfl (.same _) (FzS.cons rfl (.e (.c (@FzC.own 2 ((dI .i64 o) : List D) 0 k 2 true ((dI .i64 o) : List D) (by rw [List.drop_zero, List.take_of_length_le (by first | omega | (simp only [bsD_len, dI_len, List.length_append, List.length_cons, List.length_nil, List.length_take, List.length_drop, List.length_replicate, List.length_set, List.length_map, List.length_reverse, Nat.mul_one] <;> omega))]) (by first | omega | (simp only [bsD_len, dI_len, List.length_append, List.length_cons, List.length_nil, List.length_take, List.length_drop, List.length_replicate, List.length_set, List.length_map, List.length_reverse, Nat.mul_one] <;> omega) | rfl)))) (FzS.cons rfl (.same _) (FzS.cons rfl (.same _) FzS.nil))))) (FzG.keep rfl rfl FzG.nil) ?_
    have hx8 : ((List.length (mkL o k)) = ((mkN o k) * 2)) := mkL_len o k
    have hx9 : ((((0 : Int) ≤ (mkE o k)) ∧ ((mkE o k) ≤ 3)) ∧ ((mkN o k) ≤ 64)) := mk_rng o k
    refine AW.rgs [.no, .call [] (.tup [.agg [.d (D.sl (dI .i64 (mkL o k)) (mkN o k))], iE (mkE o k)]) [] 0 [] none, .no, .no, .no, .no, .no, .no] [2, 5] [0, 3] (P := (_)) (l' := [(2, rV 0 0), (5, rV 3 0)]) (g' := [(0, some (24, .ds [D.lit (.slice none 0 0)])), (3, some (24, .ds [D.sl (dI .i64 (mkL o k)) (mkN o k)]))]) (nx' := 4) (by kernel_rfl) (U_rMake o k (by omega) (by omega)) ?_
    refine AW.rgs [.no, .no] [2] [0] (P := True) (l' := [(2, rV 0 0)]) (g' := [(0, some (24, .ds [D.sl (dI .i64 (mkL o k)) (mkN o k)]))]) (nx' := 4) (by kernel_rfl) trivial ?_
    obtain ⟨hz1, hz2⟩ := md_fin hn hy ho (by omega)
    refine AW.ret ?_
    exact EndP.of (.inr rfl) [] (P := (((dI .i64 (mdS l n)) : List D) = (dI .i64 (mkL o k))) ∧ (((mdN l n) : Nat) = (mkN o k))) (by kernel_rfl) ⟨(by first | rfl | (rw [hz1]; done) | exact congrArg _ hz1.symm), (by first | omega | rfl)⟩

theorem K_Inter (a b : List Int) (n m : Nat) (ha : List.length a = n * 2) (hb : List.length b = m * 2) (h3 : n ≤ 9223372036854775807) (h4 : m ≤ 9223372036854775807) (va : VA a n) (vb : VA b m) : Fun 21 [.agg [.d (D.sl (dI .i64 a) n)], .agg [.d (D.sl (dI .i64 b) m)]] (toG []) 0 (.e (.agg [.d (D.sl (dI .i64 (isS a b)) (isN a b))])) (toG []) 0 := by
  have h := U_Inter a b n m ha hb h3 h4
  simp only [(sp_y va).1, (sp_y va).2, (sp_y vb).1, (sp_y vb).2] at h
  exact h

theorem K_Union (a b : List Int) (n m : Nat) (ha : List.length a = n * 2) (hb : List.length b = m * 2) (h3 : n ≤ 9223372036854775807) (h4 : m ≤ 9223372036854775807) (va : VA a n) (vb : VA b m) (hq : n + m ≤ 64) : Fun 19 [.agg [.d (D.sl (dI .i64 a) n)], .agg [.d (D.sl (dI .i64 b) m)]] (toG []) 0 (.tup [.agg [.d (D.sl (dI .i64 (unS a b)) (unN a b))], iE 0]) (toG []) 0 := by
  have h := U_Union a b n m ha hb h3 h4
  simp only [(sp_y va).1, (sp_y va).2, (sp_y vb).1, (sp_y vb).2] at h
  simp only [(un_ok ha hb va vb hq).1, (un_ok ha hb va vb hq).2.1, (un_ok ha hb va vb hq).2.2] at h
  exact h

theorem K_Inside (a b : List Int) (n m : Nat) (ha : List.length a = n * 2) (hb : List.length b = m * 2) (h3 : n ≤ 9223372036854775807) (h4 : m ≤ 9223372036854775807) (va : VA a n) (vb : VA b m) : Fun 23 [.agg [.d (D.sl (dI .i64 a) n)], .agg [.d (D.sl (dI .i64 b) m)]] (toG []) 0 (.e (.c (.d (D.lit (.bool (inB a b)))))) (toG []) 0 := by
  have h := U_Inside a b n m ha hb h3 h4
  simp only [(sp_y va).1, (sp_y va).2, (sp_y vb).1, (sp_y vb).2] at h
  exact h

theorem K_Has (l : List Int) (n : Nat) (z : Int) (hl : List.length l = n * 2) (hb : n ≤ 9223372036854775807) (vl : VA l n) : Fun 16 [.agg [.d (D.sl (dI .i64 l) n)], iE z] (toG []) 0 (.e (.c (.d (D.lit (.bool (hsB l z)))))) (toG []) 0 := by
  have h := U_Has l n z hl hb
  simp only [(sp_y vl).1, (sp_y vl).2] at h
  exact h

theorem K_Near (l : List Int) (n : Nat) (z : Int) (hl : List.length l = n * 2) (hb : n ≤ 9223372036854775807) (hz : -9223372036854775808 ≤ z ∧ z ≤ 9223372036854775807) (vl : VA l n) : Fun 25 [.agg [.d (D.sl (dI .i64 l) n)], iE z] (toG []) 0 (.tup [iE (nrV z l), .c (.d (D.lit (.bool (nrF z l))))]) (toG []) 0 := by
  have h := U_Near l n z hl hb hz
  simp only [(sp_y vl).1, (sp_y vl).2] at h
  exact h

theorem K_Valid (l : List Int) (n : Nat) (hl : List.length l = n * 2) (hb : n ≤ 9223372036854775807) (vl : VA l n) : Fun 14 [.agg [.d (D.sl (dI .i64 l) n)]] (toG []) 0 (bV true) (toG []) 0 := by
  have h := U_Valid l n hl hb
  rw [show vaB l n = true from vl] at h
  exact h

theorem sane_jd : jdS [5, 9, 1, 4, 20, 20] = [1, 9, 20, 20] ∧ jdN [5, 9, 1, 4, 20, 20] = 2 := by
  refine jd_same (n := 3) (m := 2) rfl rfl (rg_iff.1 (by decide)) ((vaB_iff (n := 2) rfl).1 (by decide)).2 fun z => ?_
  show meP [(5, 9), (1, 4), (20, 20)] z ↔ meP [(1, 9), (20, 20)] z
  simp only [meP_cons]
  have h := meP_nil z
  constructor
  · rintro (h1 | h1 | h1 | h1)
    · exact .inl ⟨by omega, by omega⟩
    · exact .inl ⟨by omega, by omega⟩
    · exact .inr (.inl h1)
    · exact absurd h1 h
  · rintro (h1 | h1 | h1)
    · by_cases h2 : 5 ≤ z
      · exact .inl ⟨h2, h1.2⟩
      · exact .inr (.inl ⟨h1.1, by omega⟩)
    · exact .inr (.inr (.inl h1))
    · exact absurd h1 h
theorem sane_mk : mkE [5, 9, 1, 4, 20, 20] 3 = 0 ∧ mkL [5, 9, 1, 4, 20, 20] 3 = [1, 9, 20, 20] ∧ mkN [5, 9, 1, 4, 20, 20] 3 = 2 := by
  have h := mk_good (l := [5, 9, 1, 4, 20, 20]) (n := 3) (by decide) (by rw [sane_jd.2]; decide)
  rw [sane_jd.1, sane_jd.2] at h; exact h

theorem K_Mk : Fun 11 [.c (.d (D.sl [iD 5, iD 9, iD 1, iD 4, iD 20, iD 20] 3))] (toG []) 0 (.tup [.agg [.d (D.sl [iD 1, iD 9, iD 20, iD 20] 2)], iE 0]) (toG []) 0 := by
  have h := U_Make [5, 9, 1, 4, 20, 20] 3 rfl (by decide)
  rw [sane_mk.1, sane_mk.2.1, sane_mk.2.2] at h
  exact h

theorem K_Ns0 : Fun 25 [.agg [.d (D.sl [iD 1, iD 9, iD 20, iD 20] 2)], iE 14] (toG []) 0 (.tup [iE 9, .c (.d (D.lit (.bool true)))]) (toG []) 0 := by
  have h := U_Near [1, 9, 20, 20] 2 14 rfl (by decide) (by decide)
  rw [show spS [1, 9, 20, 20] 2 = [1, 9, 20, 20] from (sp_y (by decide)).1, show nrV 14 [1, 9, 20, 20] = 9 by decide, show nrF 14 [1, 9, 20, 20] = true by decide] at h
  exact h

theorem K_Ns1 : Fun 25 [.agg [.d (D.sl [iD 1, iD 9, iD 20, iD 20] 2)], iE 15] (toG []) 0 (.tup [iE 20, .c (.d (D.lit (.bool true)))]) (toG []) 0 := by
  have h := U_Near [1, 9, 20, 20] 2 15 rfl (by decide) (by decide)
  rw [show spS [1, 9, 20, 20] 2 = [1, 9, 20, 20] from (sp_y (by decide)).1, show nrV 15 [1, 9, 20, 20] = 20 by decide, show nrF 15 [1, 9, 20, 20] = true by decide] at h
  exact h

theorem K_Vs : Fun 14 [.agg [.d (D.sl [iD 1, iD 9, iD 20, iD 20] 2)]] (toG []) 0 (bV true) (toG []) 0 := by
  have h := U_Valid [1, 9, 20, 20] 2 rfl (by decide)
  rw [show vaB [1, 9, 20, 20] 2 = true by decide] at h
  exact h

theorem K_Hs0 : Fun 16 [.agg [.d (D.sl [iD 1, iD 9, iD 20, iD 20] 2)], iE 20] (toG []) 0 (bV true) (toG []) 0 := by
  have h := U_Has [1, 9, 20, 20] 2 20 rfl (by decide)
  rw [show spS [1, 9, 20, 20] 2 = [1, 9, 20, 20] from (sp_y (by decide)).1, show hsB [1, 9, 20, 20] 20 = true by decide] at h
  exact h

theorem K_Hs1 : Fun 16 [.agg [.d (D.sl [iD 1, iD 9, iD 20, iD 20] 2)], iE 10] (toG []) 0 (bV false) (toG []) 0 := by
  have h := U_Has [1, 9, 20, 20] 2 10 rfl (by decide)
  rw [show spS [1, 9, 20, 20] 2 = [1, 9, 20, 20] from (sp_y (by decide)).1, show hsB [1, 9, 20, 20] 10 = false by decide] at h
  exact h

set_option maxHeartbeats 4000000 in
set_option maxRecDepth 100000 in
theorem U_sane   : Fun 9 [] (toG []) 0 (bV true) (toG []) 0 := by
  refine Fun.mk (n := 68) Try.func9 rfl rfl (Nat.le_of_ble_eq_true rfl) ?_
  intro cx hcx
  refine AW.rgs [.no] [] [] (P := True) (l' := []) (g' := []) (nx' := 0) (by kernel_rfl) trivial ?_
  refine AW.rgs [.no, .no, .no, (.fz (.no)), .call [] (.tup [.agg [.d (D.sl [iD 1, iD 9, iD 20, iD 20] 2)], iE 0]) [] 0 [] none, .no, .no, .no, .no, .no, .no] [1, 2] [1] (P := (([iD 5, iD 9, iD 1, iD 4, iD 20, iD 20] : List D).length = 3 * 2) ∧ (_)) (l' := [(1, rV 1 0), (2, iV 0)]) (g' := [(1, some (24, .ds [D.sl [iD 1, iD 9, iD 20, iD 20] 2]))]) (nx' := 2) (by kernel_rfl) ⟨(by first | omega | (simp only [bsD_len, dI_len, List.length_append, List.length_cons, List.length_nil, List.length_take, List.length_drop, List.length_replicate, List.length_set, List.length_map, List.length_reverse, Nat.mul_one] <;> omega) | rfl), (K_Mk)⟩ ?_
  refine AW.rgs [.no, .call [] (.tup [iE 9, .c (.d (D.lit (.bool true)))]) [] 0 [] none, .no, .no, .no, .no, .no] [1, 2, 3, 4] [1] (P := (_)) (l' := [(1, rV 1 0), (2, iV 0), (3, iV 9), (4, bV true)]) (g' := [(1, some (24, .ds [D.sl [iD 1, iD 9, iD 20, iD 20] 2]))]) (nx' := 2) (by kernel_rfl) (K_Ns0) ?_
  refine AW.rgs [.no, .call [] (.tup [iE 20, .c (.d (D.lit (.bool true)))]) [] 0 [] none, .no, .no, .no, .no, .no] [1, 2, 3, 4, 5, 6] [1] (P := (_)) (l' := [(1, rV 1 0), (2, iV 0), (3, iV 9), (4, bV true), (5, iV 20), (6, bV true)]) (g' := [(1, some (24, .ds [D.sl [iD 1, iD 9, iD 20, iD 20] 2]))]) (nx' := 2) (by kernel_rfl) (K_Ns1) ?_
  refine AW.rgs [.no, .b true, .no, .no, .no, .no, .b true, .no, .no, .no, .no, .n 0, .no, .no, .b true, .no, .no, .no, .no, .no, .no, .no, .no, .no, .b true, .no, .no, .no, .b true, .no, .no, .no, .call [] (bV true) [] 0 [] none, .no, .no, .no, .call [] (bV true) [] 0 [] none, .no, .no, .no, .call [] (bV false) [] 0 [] none, .no, .no, .no] [0] [] (P := (((0 : Int) = 0)) ∧ (((2 : Int) = 2)) ∧ ((0 : Int) = 0) ∧ ((0 : Nat) < 2) ∧ ((((1 : Int) = 1) ∧ ((9 : Int) = 9))) ∧ (((9 : Int) = 9)) ∧ (((20 : Int) = 20)) ∧ (_) ∧ (_) ∧ (_)) (l' := [(0, bV true)]) (g' := []) (nx' := 2) (by kernel_rfl) ⟨(by omega), (by omega), rfl, (by omega), ⟨(by omega), (by omega)⟩, (by omega), (by omega), (K_Vs), (K_Hs0), (K_Hs1)⟩ ?_
  refine AW.ret ?_
  exact EndP.of (.inr rfl) [] (P := (true = true)) (by kernel_rfl) rfl

end Go.Proofs.Ythnililaajkppaa
