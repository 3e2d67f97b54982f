/- Sets of integers: C. No statement is proved here. -/
import Derived.Test.YtcfmjpnffembpaaGreatZL09B
namespace Go.Proofs.YtcfmjpnffembpaaGreat
open Go.ChangeShapes Go.WideShapes Go.ChangeAt Go.RowKit
set_option linter.unusedVariables false
set_option linter.unusedSimpArgs false
set_option maxHeartbeats 4000000
set_option maxRecDepth 100000
theorem zl09c10 {p : Prop} (h : p := by first | omega | assumption | simp) : p := h
theorem zl09c7 {p : Prop} (h : p := by first | rfl | omega | assumption | (simp; done) | (simp; omega)) : p := h
theorem zl09c0 {p : Prop} (h : p := by first | (rw [List.drop_drop]; exact dI_at _ _ _ (by first | omega | (simp only [bsD_len, dI_len, List.length_append, List.length_cons, List.length_nil, List.length_take, List.length_drop, List.length_replicate, List.length_set, List.length_map, List.length_reverse, Nat.mul_one] <;> omega) | rfl)) | (rw [List.drop_drop, Nat.add_comm]; exact dI_at _ _ _ (by first | omega | (simp only [bsD_len, dI_len, List.length_append, List.length_cons, List.length_nil, List.length_take, List.length_drop, List.length_replicate, List.length_set, List.length_map, List.length_reverse, Nat.mul_one] <;> omega) | rfl))) : p := h
theorem zl09c2 {p : Prop} (h : p := by first | omega | (simp only [bsD_len, dI_len, List.length_append, List.length_cons, List.length_nil, List.length_take, List.length_drop, List.length_replicate, List.length_set, List.length_map, List.length_reverse, Nat.mul_one] <;> omega) | rfl) : p := h
theorem zl09c6 {p : Prop} (h : p := by simp only [dI_take, dI_drop, Nat.zero_mul, Nat.one_mul, List.drop_zero]) : p := h
theorem zl09c5 {p : Prop} (h : p := by first | assumption | (simp only [bsD_len, List.length_append, List.length_cons, List.length_nil] <;> omega)) : p := h
theorem zl09c9 {p : Prop} (h : p := by first | omega | (show _ < _; simp; omega)) : p := h
theorem zl09c1 {p : Prop} (h : p := by rw [List.drop_zero, List.take_of_length_le (by first | omega | (simp only [bsD_len, dI_len, List.length_append, List.length_cons, List.length_nil, List.length_take, List.length_drop, List.length_replicate, List.length_set, List.length_map, List.length_reverse, Nat.mul_one] <;> omega))]) : p := h
theorem zl09c8 {p : Prop} (h : p := by first | omega | rfl | assumption | (simp; done) | (simp; omega)) : p := h
abbrev t9C1_0 (i : Nat) (a : List Int) (n : Nat) (j : Nat) (b : List Int) (m : Nat) : BC := .ds [iD (max (List.getD (List.drop (i * 2) (spS a n)) 0 0) (List.getD (List.drop (j * 2) (spS b m)) 0 0)), iD (min (List.getD (List.drop (i * 2) (spS a n)) 1 0) (List.getD (List.drop (j * 2) (spS b m)) 1 0))]
theorem U_Inter (a b : List Int) (n m : Nat) (ha : List.length a = n * 2) (hb : List.length b = m * 2) (h3 : n ≤ 9223372036854775807) (h4 : m ≤ 9223372036854775807) : Fun 117 [.agg [.d (D.sl (dI .i64 a) n)], .agg [.d (D.sl (dI .i64 b) m)]] (toG []) 0 (.e (.agg [.d (D.sl (dI .i64 (isS (spS a n) (spS b m))) (isN (spS a n) (spS b m)))])) (toG []) 0 := by
 refine Fun.mk (n := 69) Tryz.func117 rfl rfl (Nat.le_of_ble_eq_true rfl) ?_
 intro cx hcx
 refine y9r [.no, .no, .no] True [(2, rV 0 0), (3, rV 1 0), (4, rV 2 0)] [(0, some (56, .ds [dl a n])), (1, some (56, .ds [dl b m])), (2, some (56, .ds [nl9]))] 3 trivial ?_
 refine y9s [.no] True [(2, rV 0 0), (3, rV 1 0), (4, rV 2 0), (5, nV)] trivial ?_
 have hx1 : ((List.length (spS a n)) = ((spN a n) * 2)) := sp_len (zo)
 have hx2 : (((spN a n) ≤ 64) ∧ ((spN a n) ≤ n)) := sp_le
 have hx3 : ((List.length (spS b m)) = ((spN b m) * 2)) := sp_len (zo)
 have hx4 : (((spN b m) ≤ 64) ∧ ((spN b m) ≤ m)) := sp_le
 refine y9r [.no, .call [] (sV .i64 (spS a n) (spN a n)) [] 0 [] none, .no, .call [] (sV .i64 (spS b m) (spN b m)) [] 0 [] none, .no, .no] ((_) ∧ (_)) [(4, rV 2 0), (5, nV), (6, sV .i64 (spS a n) (spN a n)), (7, sV .i64 (spS b m) (spN b m))] [(2, some (56, .ds [nl9]))] 3 ⟨(U_spans a n zo zo), (U_spans b m zo zo)⟩ ?_
 refine AW.seq ?_
 refine AW.block ?_
 refine AW.adoptS 5 2 77 rfl ?_
 refine AW.loopE 0 hcx (fun (x : {x : Nat × Nat × Nat × List Int // match x with | (i, j, k, o) => (i ≤ spN a n ∧ j ≤ spN b m ∧ k ≤ 64) ∧ (IX (spS a n) (spS b m) i j k o) ∧ (List.length o = k * 2)}) => match x with | ⟨(i, j, k, o), _⟩ => (⟨[(4, rV 2 0), (5, oV 4 0 k 2), (6, sV .i64 (List.drop (i * 2) (spS a n)) ((spN a n) - i)), (7, sV .i64 (List.drop (j * 2) (spS b m)) ((spN b m) - j))], [(2, some (56, .ds [nl9])), (4, some (77, .ds (dI .i64 o)))], 5⟩ : ES)) (fun x => match x with | ⟨(i, j, k, o), _⟩ => (spN a n - i) + (spN b m - j)) ⟨((0 : Nat), (0 : Nat), (0 : Nat), (([] : List Int) : List Int)), ⟨zl09c10, (IX.zero _ _), rfl⟩⟩ [(4, 3)] (P := (q9n 0) ∧ (q9n 0) ∧ (q9n 0) ∧ (((dI .i64 (List.drop 0 (spS a n))) : List D) = (dI .i64 (spS a n))) ∧ ((((spN a n) - 0) : Nat) = (spN a n)) ∧ (((dI .i64 (List.drop 0 (spS b m))) : List D) = (dI .i64 (spS b m))) ∧ ((((spN b m) - 0) : Nat) = (spN b m)) ∧ (q9d [nl9]) ∧ (((dI .i64 ([] : List Int)) : List D) = ([] : List D))) zk ⟨rfl, rfl, rfl, (by first | rfl | with_reducible assumption | exact dp1 (sp_len ha) | exact dp1 (sp_len hb)), zl09c7, (by first | rfl | with_reducible assumption | exact dp1 (sp_len ha) | exact dp1 (sp_len hb)), zl09c7, rfl, (by first | rfl | with_reducible assumption | exact dp1 (sp_len ha) | exact dp1 (sp_len hb))⟩ ?_
 rintro ⟨⟨i, j, k, o⟩, hinv0⟩
 obtain ⟨hi, hX, ho⟩ : (i ≤ spN a n ∧ j ≤ spN b m ∧ k ≤ 64) ∧ (IX (spS a n) (spS b m) i j k o) ∧ (List.length o = k * 2) := hinv0
 refine AW.es (l := [(4, rV 2 0), (5, oV 4 0 k 2), (6, sV .i64 (List.drop (i * 2) (spS a n)) ((spN a n) - i)), (7, sV .i64 (List.drop (j * 2) (spS b m)) ((spN b m) - j))]) (g := [(2, some (56, .ds [nl9])), (4, some (77, .ds (dI .i64 o)))]) (nx := 5) rfl rfl rfl ?_
 refine AW.seq ?_
 by_cases hx5 : ((0 : Int) < ((((spN a n) - i) : Nat) : Int))
 ·by_cases hx6 : ((0 : Int) < ((((spN b m) - j) : Nat) : Int))
  ·by_cases hx7 : (((k : Nat) : Int) < 64)
   ·refine y9r [.no, .no, .b true, .no, .no, .no, .b true, .no, .no, .no, .no, .b true, .no] ((((0 : Int) < ((((spN a n) - i) : Nat) : Int))) ∧ (((0 : Int) < ((((spN b m) - j) : Nat) : Int))) ∧ (((k : Int) < 64))) [(4, rV 2 0), (5, oV 4 0 k 2), (6, sV .i64 (List.drop (i * 2) (spS a n)) ((spN a n) - i)), (7, sV .i64 (List.drop (j * 2) (spS b m)) ((spN b m) - j)), (25, bV true)] [(2, some (56, .ds [nl9])), (4, some (77, .ds (dI .i64 o)))] 5 ⟨zo, zo, zo⟩ ?_
    refine zts ?_
    refine AW.block ?_
    have hx8 : List.getD (List.drop (i * 2) (spS a n)) 0 0 = List.getD (spS a n) (i * 2) 0 := getD_drop
    have hx9 : List.getD (List.drop (i * 2) (spS a n)) 1 0 = List.getD (spS a n) (i * 2 + 1) 0 := getD_drop
    have hx10 : List.getD (List.drop (j * 2) (spS b m)) 0 0 = List.getD (spS b m) (j * 2) 0 := getD_drop
    have hx11 : List.getD (List.drop (j * 2) (spS b m)) 1 0 = List.getD (spS b m) (j * 2 + 1) 0 := getD_drop
    refine y9r [.no, .n 0, .no, .d (D.lit (.int .i64 (List.getD (List.drop (i * 2) (spS a n)) 0 0))), .no, .n 0, .no, .d (D.lit (.int .i64 (List.getD (List.drop (j * 2) (spS b m)) 0 0))), .no, .no, .n 0, .no, .d (D.lit (.int .i64 (List.getD (List.drop (i * 2) (spS a n)) 1 0))), .no, .n 0, .no, .d (D.lit (.int .i64 (List.getD (List.drop (j * 2) (spS b m)) 1 0))), .no, .no, .no, .no] ((q9i 0) ∧ ((0 : Nat) < ((spN a n) - i)) ∧ ((List.drop 0 (List.drop 0 (dI .i64 (List.drop (i * 2) (spS a n)))))[0]? = some (D.lit (.int .i64 (List.getD (List.drop (i * 2) (spS a n)) 0 0)))) ∧ (q9i 0) ∧ ((0 : Nat) < ((spN b m) - j)) ∧ ((List.drop 0 (List.drop 0 (dI .i64 (List.drop (j * 2) (spS b m)))))[0]? = some (D.lit (.int .i64 (List.getD (List.drop (j * 2) (spS b m)) 0 0)))) ∧ (q9i 0) ∧ ((0 : Nat) < ((spN a n) - i)) ∧ ((List.drop 1 (List.drop 0 (dI .i64 (List.drop (i * 2) (spS a n)))))[0]? = some (D.lit (.int .i64 (List.getD (List.drop (i * 2) (spS a n)) 1 0)))) ∧ (q9i 0) ∧ ((0 : Nat) < ((spN b m) - j)) ∧ ((List.drop 1 (List.drop 0 (dI .i64 (List.drop (j * 2) (spS b m)))))[0]? = some (D.lit (.int .i64 (List.getD (List.drop (j * 2) (spS b m)) 1 0))))) [(4, rV 2 0), (5, oV 4 0 k 2), (6, sV .i64 (List.drop (i * 2) (spS a n)) ((spN a n) - i)), (7, sV .i64 (List.drop (j * 2) (spS b m)) ((spN b m) - j)), (8, rV 5 0)] [(2, some (56, .ds [nl9])), (4, some (77, .ds (dI .i64 o))), (5, some (77, (t9C1_0 i a n j b m)))] 6 ⟨rfl, zo, zl09c0, rfl, zo, zl09c0, rfl, zo, zl09c0, rfl, zo, zl09c0⟩ ?_
    refine AW.seq ?_
    by_cases hx12 : ((max (List.getD (List.drop (i * 2) (spS a n)) 0 0) (List.getD (List.drop (j * 2) (spS b m)) 0 0)) ≤ (min (List.getD (List.drop (i * 2) (spS a n)) 1 0) (List.getD (List.drop (j * 2) (spS b m)) 1 0)))
    ·refine y9s (nz9 4 [.b true]) (((max (List.getD (List.drop (i * 2) (spS a n)) 0 0) (List.getD (List.drop (j * 2) (spS b m)) 0 0)) ≤ (min (List.getD (List.drop (i * 2) (spS a n)) 1 0) (List.getD (List.drop (j * 2) (spS b m)) 1 0)))) [(4, rV 2 0), (5, oV 4 0 k 2), (6, sV .i64 (List.drop (i * 2) (spS a n)) ((spN a n) - i)), (7, sV .i64 (List.drop (j * 2) (spS b m)) ((spN b m) - j)), (8, rV 5 0), (49, bV true)] zo ?_
     refine zt ?_
     refine y9g [.no, .no, .no, .ap none (k + 1) (dI .i64 (o ++ ([(max (List.getD (List.drop (i * 2) (spS a n)) 0 0) (List.getD (List.drop (j * 2) (spS b m)) 0 0)), (min (List.getD (List.drop (i * 2) (spS a n)) 1 0) (List.getD (List.drop (j * 2) (spS b m)) 1 0))] : List Int))), .no] (([iD (max (List.getD (List.drop (i * 2) (spS a n)) 0 0) (List.getD (List.drop (j * 2) (spS b m)) 0 0)), iD (min (List.getD (List.drop (i * 2) (spS a n)) 1 0) (List.getD (List.drop (j * 2) (spS b m)) 1 0))].length = 1 * 2) ∧ (((dI .i64 o) : List D).length = k * 2) ∧ ((k + 1) * 16 ≤ 140737488355328) ∧ (k + 1 = (k + 1)) ∧ (((dI .i64 o) : List D) ++ [iD (max (List.getD (List.drop (i * 2) (spS a n)) 0 0) (List.getD (List.drop (j * 2) (spS b m)) 0 0)), iD (min (List.getD (List.drop (i * 2) (spS a n)) 1 0) (List.getD (List.drop (j * 2) (spS b m)) 1 0))] = (dI .i64 (o ++ ([(max (List.getD (List.drop (i * 2) (spS a n)) 0 0) (List.getD (List.drop (j * 2) (spS b m)) 0 0)), (min (List.getD (List.drop (i * 2) (spS a n)) 1 0) (List.getD (List.drop (j * 2) (spS b m)) 1 0))] : List Int))))) [(4, rV 2 0), (5, oV 7 0 (k + 1) 2), (6, sV .i64 (List.drop (i * 2) (spS a n)) ((spN a n) - i)), (7, sV .i64 (List.drop (j * 2) (spS b m)) ((spN b m) - j))] [(2, some (56, .ds [nl9])), (7, some (77, .ds (dI .i64 (o ++ ([(max (List.getD (List.drop (i * 2) (spS a n)) 0 0) (List.getD (List.drop (j * 2) (spS b m)) 0 0)), (min (List.getD (List.drop (i * 2) (spS a n)) 1 0) (List.getD (List.drop (j * 2) (spS b m)) 1 0))] : List Int)))))] 8 ⟨zl09c2, zl09c2, zo, zo, (dI_app .i64 o ([(max (List.getD (List.drop (i * 2) (spS a n)) 0 0) (List.getD (List.drop (j * 2) (spS b m)) 0 0)), (min (List.getD (List.drop (i * 2) (spS a n)) 1 0) (List.getD (List.drop (j * 2) (spS b m)) 1 0))] : List Int))⟩ ?_
     by_cases hx13 : ((List.getD (List.drop (i * 2) (spS a n)) 1 0) < (List.getD (List.drop (j * 2) (spS b m)) 1 0))
     ·refine y9s [.no, .n 0, .no, .d (D.lit (.int .i64 (List.getD (List.drop (i * 2) (spS a n)) 1 0))), .no, .n 0, .no, .d (D.lit (.int .i64 (List.getD (List.drop (j * 2) (spS b m)) 1 0))), .b true] ((q9i 0) ∧ ((0 : Nat) < ((spN a n) - i)) ∧ ((List.drop 1 (List.drop 0 (dI .i64 (List.drop (i * 2) (spS a n)))))[0]? = some (D.lit (.int .i64 (List.getD (List.drop (i * 2) (spS a n)) 1 0)))) ∧ (q9i 0) ∧ ((0 : Nat) < ((spN b m) - j)) ∧ ((List.drop 1 (List.drop 0 (dI .i64 (List.drop (j * 2) (spS b m)))))[0]? = some (D.lit (.int .i64 (List.getD (List.drop (j * 2) (spS b m)) 1 0)))) ∧ (((List.getD (List.drop (i * 2) (spS a n)) 1 0) < (List.getD (List.drop (j * 2) (spS b m)) 1 0)))) [(4, rV 2 0), (5, oV 7 0 (k + 1) 2), (6, sV .i64 (List.drop (i * 2) (spS a n)) ((spN a n) - i)), (7, sV .i64 (List.drop (j * 2) (spS b m)) ((spN b m) - j)), (62, bV true)] ⟨rfl, zo, zl09c0, rfl, zo, zl09c0, zo⟩ ?_
      refine zt ?_
      refine y9h [.no, .sls 1 ((spN a n) - i) (((spN a n) - i) - 1) (dI .i64 (List.take ((((spN a n) - i) - 1) * 2) (List.drop 2 (List.drop (i * 2) (spS a n))))), .no] ((q9i 1) ∧ (((spN a n) - i) = ((spN a n) - i)) ∧ ((1 : Nat) ≤ ((spN a n) - i)) ∧ (((spN a n) - i) ≤ ((spN a n) - i)) ∧ (((spN a n) - i) - 1 = (((spN a n) - i) - 1)) ∧ (List.take ((((spN a n) - i) - 1) * 2) (List.drop (1 * 2) (dI .i64 (List.drop (i * 2) (spS a n)))) = (dI .i64 (List.take ((((spN a n) - i) - 1) * 2) (List.drop 2 (List.drop (i * 2) (spS a n))))))) [(4, rV 2 0), (5, oV 7 0 (k + 1) 2), (6, sV .i64 (List.take ((((spN a n) - i) - 1) * 2) (List.drop 2 (List.drop (i * 2) (spS a n)))) (((spN a n) - i) - 1)), (7, sV .i64 (List.drop (j * 2) (spS b m)) ((spN b m) - j))] ⟨rfl, rfl, zo, zo, zo, zl09c6⟩ ?_
      exact Rd.of ⟨(((i + 1) : Nat), (j : Nat), ((k + 1) : Nat), ((o ++ ([(max (List.getD (List.drop (i * 2) (spS a n)) 0 0) (List.getD (List.drop (j * 2) (spS b m)) 0 0)), (min (List.getD (List.drop (i * 2) (spS a n)) 1 0) (List.getD (List.drop (j * 2) (spS b m)) 1 0))] : List Int)) : List Int)), ⟨zl09c10, (by first | exact hX.ly (sp_len ha) (sp_len hb) (sp_ok ha) (sp_ok hb) zo zo zo zo zo zo | exact hX.ln (sp_len ha) (sp_len hb) (sp_ok ha) (sp_ok hb) zo zo zo zo | exact hX.ry (sp_len ha) (sp_len hb) (sp_ok ha) (sp_ok hb) zo zo zo zo zo zo | exact hX.rn (sp_len ha) (sp_len hb) (sp_ok ha) (sp_ok hb) zo zo zo zo), zl09c5⟩⟩ [(4, 7)] (P := (q9n 0) ∧ (q9n 0) ∧ (q9n (k + 1)) ∧ (((dI .i64 (List.drop ((i + 1) * 2) (spS a n))) : List D) = (dI .i64 (List.take ((((spN a n) - i) - 1) * 2) (List.drop 2 (List.drop (i * 2) (spS a n)))))) ∧ ((((spN a n) - (i + 1)) : Nat) = (((spN a n) - i) - 1)) ∧ (q9d (dI .i64 (List.drop (j * 2) (spS b m)))) ∧ (q9n ((spN b m) - j)) ∧ (q9d [nl9]) ∧ (q9d (dI .i64 (o ++ ([(max (List.getD (List.drop (i * 2) (spS a n)) 0 0) (List.getD (List.drop (j * 2) (spS b m)) 0 0)), (min (List.getD (List.drop (i * 2) (spS a n)) 1 0) (List.getD (List.drop (j * 2) (spS b m)) 1 0))] : List Int))))) zk ⟨rfl, rfl, rfl, (by first | rfl | with_reducible assumption | exact dp1 (sp_len ha) | exact dp1 (sp_len hb)), zl09c7, rfl, rfl, rfl, rfl⟩ (show (spN a n - (i + 1)) + (spN b m - j) < (spN a n - i) + (spN b m - j) from zl09c9)
     ·refine y9s [.no, .n 0, .no, .d (D.lit (.int .i64 (List.getD (List.drop (i * 2) (spS a n)) 1 0))), .no, .n 0, .no, .d (D.lit (.int .i64 (List.getD (List.drop (j * 2) (spS b m)) 1 0))), .b false] ((q9i 0) ∧ ((0 : Nat) < ((spN a n) - i)) ∧ ((List.drop 1 (List.drop 0 (dI .i64 (List.drop (i * 2) (spS a n)))))[0]? = some (D.lit (.int .i64 (List.getD (List.drop (i * 2) (spS a n)) 1 0)))) ∧ (q9i 0) ∧ ((0 : Nat) < ((spN b m) - j)) ∧ ((List.drop 1 (List.drop 0 (dI .i64 (List.drop (j * 2) (spS b m)))))[0]? = some (D.lit (.int .i64 (List.getD (List.drop (j * 2) (spS b m)) 1 0)))) ∧ (¬ ((List.getD (List.drop (i * 2) (spS a n)) 1 0) < (List.getD (List.drop (j * 2) (spS b m)) 1 0)))) [(4, rV 2 0), (5, oV 7 0 (k + 1) 2), (6, sV .i64 (List.drop (i * 2) (spS a n)) ((spN a n) - i)), (7, sV .i64 (List.drop (j * 2) (spS b m)) ((spN b m) - j)), (62, bV false)] ⟨rfl, zo, zl09c0, rfl, zo, zl09c0, zo⟩ ?_
      refine zf ?_
      refine y9h [.no, .sls 1 ((spN b m) - j) (((spN b m) - j) - 1) (dI .i64 (List.take ((((spN b m) - j) - 1) * 2) (List.drop 2 (List.drop (j * 2) (spS b m))))), .no] ((q9i 1) ∧ (((spN b m) - j) = ((spN b m) - j)) ∧ ((1 : Nat) ≤ ((spN b m) - j)) ∧ (((spN b m) - j) ≤ ((spN b m) - j)) ∧ (((spN b m) - j) - 1 = (((spN b m) - j) - 1)) ∧ (List.take ((((spN b m) - j) - 1) * 2) (List.drop (1 * 2) (dI .i64 (List.drop (j * 2) (spS b m)))) = (dI .i64 (List.take ((((spN b m) - j) - 1) * 2) (List.drop 2 (List.drop (j * 2) (spS b m))))))) [(4, rV 2 0), (5, oV 7 0 (k + 1) 2), (6, sV .i64 (List.drop (i * 2) (spS a n)) ((spN a n) - i)), (7, sV .i64 (List.take ((((spN b m) - j) - 1) * 2) (List.drop 2 (List.drop (j * 2) (spS b m)))) (((spN b m) - j) - 1))] ⟨rfl, rfl, zo, zo, zo, zl09c6⟩ ?_
      exact Rd.of ⟨((i : Nat), ((j + 1) : Nat), ((k + 1) : Nat), ((o ++ ([(max (List.getD (List.drop (i * 2) (spS a n)) 0 0) (List.getD (List.drop (j * 2) (spS b m)) 0 0)), (min (List.getD (List.drop (i * 2) (spS a n)) 1 0) (List.getD (List.drop (j * 2) (spS b m)) 1 0))] : List Int)) : List Int)), ⟨zl09c10, (by first | exact hX.ly (sp_len ha) (sp_len hb) (sp_ok ha) (sp_ok hb) zo zo zo zo zo zo | exact hX.ln (sp_len ha) (sp_len hb) (sp_ok ha) (sp_ok hb) zo zo zo zo | exact hX.ry (sp_len ha) (sp_len hb) (sp_ok ha) (sp_ok hb) zo zo zo zo zo zo | exact hX.rn (sp_len ha) (sp_len hb) (sp_ok ha) (sp_ok hb) zo zo zo zo), zl09c5⟩⟩ [(4, 7)] (P := (q9n 0) ∧ (q9n 0) ∧ (q9n (k + 1)) ∧ (q9d (dI .i64 (List.drop (i * 2) (spS a n)))) ∧ (q9n ((spN a n) - i)) ∧ (((dI .i64 (List.drop ((j + 1) * 2) (spS b m))) : List D) = (dI .i64 (List.take ((((spN b m) - j) - 1) * 2) (List.drop 2 (List.drop (j * 2) (spS b m)))))) ∧ ((((spN b m) - (j + 1)) : Nat) = (((spN b m) - j) - 1)) ∧ (q9d [nl9]) ∧ (q9d (dI .i64 (o ++ ([(max (List.getD (List.drop (i * 2) (spS a n)) 0 0) (List.getD (List.drop (j * 2) (spS b m)) 0 0)), (min (List.getD (List.drop (i * 2) (spS a n)) 1 0) (List.getD (List.drop (j * 2) (spS b m)) 1 0))] : List Int))))) zk ⟨rfl, rfl, rfl, rfl, rfl, (by first | rfl | with_reducible assumption | exact dp1 (sp_len ha) | exact dp1 (sp_len hb)), zl09c7, rfl, rfl⟩ (show (spN a n - i) + (spN b m - (j + 1)) < (spN a n - i) + (spN b m - j) from zl09c9)
    ·refine y9s (nz9 4 [.b false]) (¬ ((max (List.getD (List.drop (i * 2) (spS a n)) 0 0) (List.getD (List.drop (j * 2) (spS b m)) 0 0)) ≤ (min (List.getD (List.drop (i * 2) (spS a n)) 1 0) (List.getD (List.drop (j * 2) (spS b m)) 1 0)))) [(4, rV 2 0), (5, oV 4 0 k 2), (6, sV .i64 (List.drop (i * 2) (spS a n)) ((spN a n) - i)), (7, sV .i64 (List.drop (j * 2) (spS b m)) ((spN b m) - j)), (8, rV 5 0), (49, bV false)] zo ?_
     refine zfs ?_
     by_cases hx14 : ((List.getD (List.drop (i * 2) (spS a n)) 1 0) < (List.getD (List.drop (j * 2) (spS b m)) 1 0))
     ·refine y9r [.no, .n 0, .no, .d (D.lit (.int .i64 (List.getD (List.drop (i * 2) (spS a n)) 1 0))), .no, .n 0, .no, .d (D.lit (.int .i64 (List.getD (List.drop (j * 2) (spS b m)) 1 0))), .b true] ((q9i 0) ∧ ((0 : Nat) < ((spN a n) - i)) ∧ ((List.drop 1 (List.drop 0 (dI .i64 (List.drop (i * 2) (spS a n)))))[0]? = some (D.lit (.int .i64 (List.getD (List.drop (i * 2) (spS a n)) 1 0)))) ∧ (q9i 0) ∧ ((0 : Nat) < ((spN b m) - j)) ∧ ((List.drop 1 (List.drop 0 (dI .i64 (List.drop (j * 2) (spS b m)))))[0]? = some (D.lit (.int .i64 (List.getD (List.drop (j * 2) (spS b m)) 1 0)))) ∧ (((List.getD (List.drop (i * 2) (spS a n)) 1 0) < (List.getD (List.drop (j * 2) (spS b m)) 1 0)))) [(4, rV 2 0), (5, oV 4 0 k 2), (6, sV .i64 (List.drop (i * 2) (spS a n)) ((spN a n) - i)), (7, sV .i64 (List.drop (j * 2) (spS b m)) ((spN b m) - j)), (62, bV true)] [(2, some (56, .ds [nl9])), (4, some (77, .ds (dI .i64 o)))] 6 ⟨rfl, zo, zl09c0, rfl, zo, zl09c0, zo⟩ ?_
      refine zt ?_
      refine y9h [.no, .sls 1 ((spN a n) - i) (((spN a n) - i) - 1) (dI .i64 (List.take ((((spN a n) - i) - 1) * 2) (List.drop 2 (List.drop (i * 2) (spS a n))))), .no] ((q9i 1) ∧ (((spN a n) - i) = ((spN a n) - i)) ∧ ((1 : Nat) ≤ ((spN a n) - i)) ∧ (((spN a n) - i) ≤ ((spN a n) - i)) ∧ (((spN a n) - i) - 1 = (((spN a n) - i) - 1)) ∧ (List.take ((((spN a n) - i) - 1) * 2) (List.drop (1 * 2) (dI .i64 (List.drop (i * 2) (spS a n)))) = (dI .i64 (List.take ((((spN a n) - i) - 1) * 2) (List.drop 2 (List.drop (i * 2) (spS a n))))))) [(4, rV 2 0), (5, oV 4 0 k 2), (6, sV .i64 (List.take ((((spN a n) - i) - 1) * 2) (List.drop 2 (List.drop (i * 2) (spS a n)))) (((spN a n) - i) - 1)), (7, sV .i64 (List.drop (j * 2) (spS b m)) ((spN b m) - j))] ⟨rfl, rfl, zo, zo, zo, zl09c6⟩ ?_
      exact Rd.of ⟨(((i + 1) : Nat), (j : Nat), (k : Nat), (o : List Int)), ⟨zl09c10, (by first | exact hX.ly (sp_len ha) (sp_len hb) (sp_ok ha) (sp_ok hb) zo zo zo zo zo zo | exact hX.ln (sp_len ha) (sp_len hb) (sp_ok ha) (sp_ok hb) zo zo zo zo | exact hX.ry (sp_len ha) (sp_len hb) (sp_ok ha) (sp_ok hb) zo zo zo zo zo zo | exact hX.rn (sp_len ha) (sp_len hb) (sp_ok ha) (sp_ok hb) zo zo zo zo), zl09c5⟩⟩ [] (P := (q9n 0) ∧ (q9n 0) ∧ (q9n k) ∧ (((dI .i64 (List.drop ((i + 1) * 2) (spS a n))) : List D) = (dI .i64 (List.take ((((spN a n) - i) - 1) * 2) (List.drop 2 (List.drop (i * 2) (spS a n)))))) ∧ ((((spN a n) - (i + 1)) : Nat) = (((spN a n) - i) - 1)) ∧ (q9d (dI .i64 (List.drop (j * 2) (spS b m)))) ∧ (q9n ((spN b m) - j)) ∧ (q9d [nl9]) ∧ (q9d (dI .i64 o))) zk ⟨rfl, rfl, rfl, (by first | rfl | with_reducible assumption | exact dp1 (sp_len ha) | exact dp1 (sp_len hb)), zl09c7, rfl, rfl, rfl, rfl⟩ (show (spN a n - (i + 1)) + (spN b m - j) < (spN a n - i) + (spN b m - j) from zl09c9)
     ·refine y9r [.no, .n 0, .no, .d (D.lit (.int .i64 (List.getD (List.drop (i * 2) (spS a n)) 1 0))), .no, .n 0, .no, .d (D.lit (.int .i64 (List.getD (List.drop (j * 2) (spS b m)) 1 0))), .b false] ((q9i 0) ∧ ((0 : Nat) < ((spN a n) - i)) ∧ ((List.drop 1 (List.drop 0 (dI .i64 (List.drop (i * 2) (spS a n)))))[0]? = some (D.lit (.int .i64 (List.getD (List.drop (i * 2) (spS a n)) 1 0)))) ∧ (q9i 0) ∧ ((0 : Nat) < ((spN b m) - j)) ∧ ((List.drop 1 (List.drop 0 (dI .i64 (List.drop (j * 2) (spS b m)))))[0]? = some (D.lit (.int .i64 (List.getD (List.drop (j * 2) (spS b m)) 1 0)))) ∧ (¬ ((List.getD (List.drop (i * 2) (spS a n)) 1 0) < (List.getD (List.drop (j * 2) (spS b m)) 1 0)))) [(4, rV 2 0), (5, oV 4 0 k 2), (6, sV .i64 (List.drop (i * 2) (spS a n)) ((spN a n) - i)), (7, sV .i64 (List.drop (j * 2) (spS b m)) ((spN b m) - j)), (62, bV false)] [(2, some (56, .ds [nl9])), (4, some (77, .ds (dI .i64 o)))] 6 ⟨rfl, zo, zl09c0, rfl, zo, zl09c0, zo⟩ ?_
      refine zf ?_
      refine y9h [.no, .sls 1 ((spN b m) - j) (((spN b m) - j) - 1) (dI .i64 (List.take ((((spN b m) - j) - 1) * 2) (List.drop 2 (List.drop (j * 2) (spS b m))))), .no] ((q9i 1) ∧ (((spN b m) - j) = ((spN b m) - j)) ∧ ((1 : Nat) ≤ ((spN b m) - j)) ∧ (((spN b m) - j) ≤ ((spN b m) - j)) ∧ (((spN b m) - j) - 1 = (((spN b m) - j) - 1)) ∧ (List.take ((((spN b m) - j) - 1) * 2) (List.drop (1 * 2) (dI .i64 (List.drop (j * 2) (spS b m)))) = (dI .i64 (List.take ((((spN b m) - j) - 1) * 2) (List.drop 2 (List.drop (j * 2) (spS b m))))))) [(4, rV 2 0), (5, oV 4 0 k 2), (6, sV .i64 (List.drop (i * 2) (spS a n)) ((spN a n) - i)), (7, sV .i64 (List.take ((((spN b m) - j) - 1) * 2) (List.drop 2 (List.drop (j * 2) (spS b m)))) (((spN b m) - j) - 1))] ⟨rfl, rfl, zo, zo, zo, zl09c6⟩ ?_
      exact Rd.of ⟨((i : Nat), ((j + 1) : Nat), (k : Nat), (o : List Int)), ⟨zl09c10, (by first | exact hX.ly (sp_len ha) (sp_len hb) (sp_ok ha) (sp_ok hb) zo zo zo zo zo zo | exact hX.ln (sp_len ha) (sp_len hb) (sp_ok ha) (sp_ok hb) zo zo zo zo | exact hX.ry (sp_len ha) (sp_len hb) (sp_ok ha) (sp_ok hb) zo zo zo zo zo zo | exact hX.rn (sp_len ha) (sp_len hb) (sp_ok ha) (sp_ok hb) zo zo zo zo), zl09c5⟩⟩ [] (P := (q9n 0) ∧ (q9n 0) ∧ (q9n k) ∧ (q9d (dI .i64 (List.drop (i * 2) (spS a n)))) ∧ (q9n ((spN a n) - i)) ∧ (((dI .i64 (List.drop ((j + 1) * 2) (spS b m))) : List D) = (dI .i64 (List.take ((((spN b m) - j) - 1) * 2) (List.drop 2 (List.drop (j * 2) (spS b m)))))) ∧ ((((spN b m) - (j + 1)) : Nat) = (((spN b m) - j) - 1)) ∧ (q9d [nl9]) ∧ (q9d (dI .i64 o))) zk ⟨rfl, rfl, rfl, rfl, rfl, (by first | rfl | with_reducible assumption | exact dp1 (sp_len ha) | exact dp1 (sp_len hb)), zl09c7, rfl, rfl⟩ (show (spN a n - i) + (spN b m - (j + 1)) < (spN a n - i) + (spN b m - j) from zl09c9)
   ·refine y9r [.no, .no, .b true, .no, .no, .no, .b true, .no, .no, .no, .no, .b false, .no] ((((0 : Int) < ((((spN a n) - i) : Nat) : Int))) ∧ (((0 : Int) < ((((spN b m) - j) : Nat) : Int))) ∧ (¬ ((k : Int) < 64))) [(4, rV 2 0), (5, oV 4 0 k 2), (6, sV .i64 (List.drop (i * 2) (spS a n)) ((spN a n) - i)), (7, sV .i64 (List.drop (j * 2) (spS b m)) ((spN b m) - j)), (25, bV false)] [(2, some (56, .ds [nl9])), (4, some (77, .ds (dI .i64 o)))] 5 ⟨zo, zo, zo⟩ ?_
    refine zf ?_
    refine AW.exit ?_
    refine y9r [.no, .no, .no] True [(4, rV 2 0)] [(2, some (56, .cs [.own 4 0 k 2 true])), (4, some (77, .ds (dI .i64 o)))] 5 trivial ?_
    obtain ⟨hz1, hz2⟩ := hX.fin (sp_len ha) (sp_len hb) zo zo
    refine AW.freeze 4 (l' := [(4, rV 2 0)]) (g' := [(2, some (56, .ds [dl o k]))]) rfl (FzS.cons rfl (.same _) FzS.nil) (FzG.to (bc := .cs [.own 4 0 k 2 true]) rfl (by rfl) (FzL.cons (@FzC.own 4 ((dI .i64 o) : List D) 0 k 2 true ((dI .i64 o) : List D) zl09c1 zl09c2) FzL.nil) FzG.nil) ?_
    refine AW.ret ?_
    exact EndP.of (.inr rfl) [] (P := (((dI .i64 (isS (spS a n) (spS b m))) : List D) = (dI .i64 o)) ∧ (((isN (spS a n) (spS b m)) : Nat) = k)) zk ⟨(by first | exact congrArg _ hz1.symm | rfl), zl09c8⟩
  ·refine y9r [.no, .no, .b true, .no, .no, .no, .b false, .no, .no, .no] ((((0 : Int) < ((((spN a n) - i) : Nat) : Int))) ∧ (¬ ((0 : Int) < ((((spN b m) - j) : Nat) : Int)))) [(4, rV 2 0), (5, oV 4 0 k 2), (6, sV .i64 (List.drop (i * 2) (spS a n)) ((spN a n) - i)), (7, sV .i64 (List.drop (j * 2) (spS b m)) ((spN b m) - j)), (25, bV false)] [(2, some (56, .ds [nl9])), (4, some (77, .ds (dI .i64 o)))] 5 ⟨zo, zo⟩ ?_
   refine zf ?_
   refine AW.exit ?_
   refine y9r [.no, .no, .no] True [(4, rV 2 0)] [(2, some (56, .cs [.own 4 0 k 2 true])), (4, some (77, .ds (dI .i64 o)))] 5 trivial ?_
   obtain ⟨hz1, hz2⟩ := hX.fin (sp_len ha) (sp_len hb) zo zo
   refine AW.freeze 4 (l' := [(4, rV 2 0)]) (g' := [(2, some (56, .ds [dl o k]))]) rfl (FzS.cons rfl (.same _) FzS.nil) (FzG.to (bc := .cs [.own 4 0 k 2 true]) rfl (by rfl) (FzL.cons (@FzC.own 4 ((dI .i64 o) : List D) 0 k 2 true ((dI .i64 o) : List D) zl09c1 zl09c2) FzL.nil) FzG.nil) ?_
   refine AW.ret ?_
   exact EndP.of (.inr rfl) [] (P := (((dI .i64 (isS (spS a n) (spS b m))) : List D) = (dI .i64 o)) ∧ (((isN (spS a n) (spS b m)) : Nat) = k)) zk ⟨(by first | exact congrArg _ hz1.symm | rfl), zl09c8⟩
 ·refine y9r (.no :: .no :: .b false :: nz9 4 []) (¬ ((0 : Int) < ((((spN a n) - i) : Nat) : Int))) [(4, rV 2 0), (5, oV 4 0 k 2), (6, sV .i64 (List.drop (i * 2) (spS a n)) ((spN a n) - i)), (7, sV .i64 (List.drop (j * 2) (spS b m)) ((spN b m) - j)), (25, bV false)] [(2, some (56, .ds [nl9])), (4, some (77, .ds (dI .i64 o)))] 5 zo ?_
  refine zf ?_
  refine AW.exit ?_
  refine y9r [.no, .no, .no] True [(4, rV 2 0)] [(2, some (56, .cs [.own 4 0 k 2 true])), (4, some (77, .ds (dI .i64 o)))] 5 trivial ?_
  obtain ⟨hz1, hz2⟩ := hX.fin (sp_len ha) (sp_len hb) zo zo
  refine AW.freeze 4 (l' := [(4, rV 2 0)]) (g' := [(2, some (56, .ds [dl o k]))]) rfl (FzS.cons rfl (.same _) FzS.nil) (FzG.to (bc := .cs [.own 4 0 k 2 true]) rfl (by rfl) (FzL.cons (@FzC.own 4 ((dI .i64 o) : List D) 0 k 2 true ((dI .i64 o) : List D) zl09c1 zl09c2) FzL.nil) FzG.nil) ?_
  refine AW.ret ?_
  exact EndP.of (.inr rfl) [] (P := (((dI .i64 (isS (spS a n) (spS b m))) : List D) = (dI .i64 o)) ∧ (((isN (spS a n) (spS b m)) : Nat) = k)) zk ⟨(by first | exact congrArg _ hz1.symm | rfl), zl09c8⟩
theorem zl09c4 {p : Prop} (h : p := by first | rfl | assumption | exact decide_eq_true (by omega) | exact decide_eq_false (by omega) | (simp; omega)) : p := h
theorem U_Inside1 (p q u w : Int)  : Fun 144 [.agg [iC p, iC q], .c (.ptr 0 0)] (toG [(0, some (77, .ds [iD u, iD w]))]) 1 (.e (.c (.d (D.lit (.bool (decide (p ≤ u ∧ w ≤ q))))))) (toG [(0, some (77, .ds [iD u, iD w]))]) 1 := by
 refine Fun.mk (n := 16) Tryz.func144 rfl rfl (Nat.le_of_ble_eq_true rfl) ?_
 intro cx hcx
 refine y9r [.no, .no] True [(1, rV 0 0), (2, rV 1 0)] [(0, some (77, .ds [iD u, iD w])), (1, some (77, .ds [iD p, iD q]))] 2 trivial ?_
 by_cases hx1 : (p ≤ u)
 ·by_cases hx2 : (w ≤ q)
  ·refine y9r (nz9 4 (.b true :: nz9 5 [.b true, .no, .no])) (((p ≤ u)) ∧ ((w ≤ q))) [(3, bV true)] [(0, some (77, .ds [iD u, iD w]))] 2 ⟨zo, zo⟩ ?_
   refine AW.ret ?_
   exact EndP.of (.inr rfl) [] (P := ((decide (p ≤ u ∧ w ≤ q)) = true) ∧ (q9d [iD u, iD w])) zk ⟨zl09c4, rfl⟩
  ·refine y9r (nz9 4 (.b true :: nz9 5 [.b false, .no, .no])) (((p ≤ u)) ∧ (¬ (w ≤ q))) [(3, bV false)] [(0, some (77, .ds [iD u, iD w]))] 2 ⟨zo, zo⟩ ?_
   refine AW.ret ?_
   exact EndP.of (.inr rfl) [] (P := ((decide (p ≤ u ∧ w ≤ q)) = false) ∧ (q9d [iD u, iD w])) zk ⟨zl09c4, rfl⟩
 ·refine y9r (nz9 4 [.b false, .no, .no, .no]) (¬ (p ≤ u)) [(3, bV false)] [(0, some (77, .ds [iD u, iD w]))] 2 zo ?_
  refine AW.ret ?_
  exact EndP.of (.inr rfl) [] (P := ((decide (p ≤ u ∧ w ≤ q)) = false) ∧ (q9d [iD u, iD w])) zk ⟨zl09c4, rfl⟩
theorem U_IndexFunc (b : List Int) (m : Nat) (u w : Int) (hb : List.length b = m * 2) (h2 : m ≤ 1000000) : Fun 150 [.c (.d (D.sl (dI .i64 b) m)), .c (.fn 144 [(0, 0)])] (toG [(0, some (77, .ds [iD u, iD w]))]) 1 (iV (cfK b u w m)) (toG [(0, some (77, .ds [iD u, iD w]))]) 1 := by
 refine Fun.mk (n := 19) Tryz.func150 rfl rfl (Nat.le_of_ble_eq_true rfl) ?_
 intro cx hcx
 refine y9r [.no] True [(0, sV .i64 b m), (1, .e (.c (.fn 144 [(0, 0)])))] [(0, some (77, .ds [iD u, iD w]))] 1 trivial ?_
 refine AW.seq ?_
 refine y9s [.no, .no, .no] True [(0, sV .i64 b m), (1, .e (.c (.fn 144 [(0, 0)]))), (7, uV m), (8, iV 0)] trivial ?_
 refine AW.block ?_
 refine AW.loopE 1 hcx (fun (x : {x : Nat // match x with | k => (k ≤ m) ∧ (cfK b u w k = -1)}) => match x with | ⟨k, _⟩ => (⟨[(0, sV .i64 b m), (1, .e (.c (.fn 144 [(0, 0)]))), (7, uV m), (8, uV k)], [(0, some (77, .ds [iD u, iD w]))], 1⟩ : ES)) (fun x => match x with | ⟨k, _⟩ => m - k) ⟨(0 : Nat), ⟨zl09c10, rfl⟩⟩ [] (P := (q9d (dI .i64 b)) ∧ (q9n m) ∧ (q9i (m : Int)) ∧ (q9i 0) ∧ (q9d [iD u, iD w])) zk ⟨rfl, rfl, rfl, rfl, rfl⟩ ?_
 rintro ⟨k, hinv0⟩
 obtain ⟨hk, hi⟩ : (k ≤ m) ∧ (cfK b u w k = -1) := hinv0
 refine AW.es (l := [(0, sV .i64 b m), (1, .e (.c (.fn 144 [(0, 0)]))), (7, uV m), (8, uV k)]) (g := [(0, some (77, .ds [iD u, iD w]))]) (nx := 1) rfl rfl rfl ?_
 by_cases hx1 : (((k : Nat) : Int) < ((m : Nat) : Int))
 ·refine y9r [.b true] (((k : Int) < (m : Int))) [(0, sV .i64 b m), (1, .e (.c (.fn 144 [(0, 0)]))), (7, uV m), (8, uV k), (9, bV true)] [(0, some (77, .ds [iD u, iD w]))] 1 zo ?_
  refine AW.seq ?_
  refine zts ?_
  refine AW.seq ?_
  refine AW.block ?_
  refine y9s [.no, .no] True [(0, sV .i64 b m), (1, .e (.c (.fn 144 [(0, 0)]))), (5, uV k), (7, uV m), (8, uV k)] trivial ?_
  rcases Bool.eq_false_or_eq_true (decide ((List.getD b (k * 2) 0) ≤ u ∧ w ≤ (List.getD b ((k * 2) + 1) 0))) with hx2 | hx2
  ·have hx3 : (((List.getD b (k * 2) 0) ≤ u) ∧ (w ≤ (List.getD b ((k * 2) + 1) 0))) := of_decide_eq_true hx2
   refine y9s [.no, .no, .no, .n k, .ds [iD (List.getD b (k * 2) 0), iD (List.getD b ((k * 2) + 1) 0)], .call [0] (bV true) [(0, some (77, .ds [iD u, iD w]))] 1 [] none] ((q9i (k : Int)) ∧ (k < m) ∧ (List.take 2 (List.drop (k * 2) (dI .i64 b)) = [iD (List.getD b (k * 2) 0), iD (List.getD b ((k * 2) + 1) 0)]) ∧ (([iD (List.getD b (k * 2) 0), iD (List.getD b ((k * 2) + 1) 0)] : List D).length = 2) ∧ (Fun 144 [.agg [iC (List.getD b (k * 2) 0), iC (List.getD b ((k * 2) + 1) 0)], .c (.ptr 0 0)] (toG [(0, some (77, .ds [iD u, iD w]))]) 1 (bV true) (toG [(0, some (77, .ds [iD u, iD w]))]) 1)) [(0, sV .i64 b m), (1, .e (.c (.fn 144 [(0, 0)]))), (5, uV k), (7, uV m), (8, uV k), (16, bV true)] ⟨rfl, zo, (dI_lds .i64 b (k * 2) 2 zl09c2), rfl, (by have h0 := (U_Inside1 (List.getD b (k * 2) 0) (List.getD b ((k * 2) + 1) 0) u w); rw [hx2] at h0; exact h0)⟩ ?_
   refine zt ?_
   refine y9s [.no, .no] True [(4, uV k)] trivial ?_
   refine AW.ret ?_
   exact EndP.of (.inr rfl) [] (P := (((cfK b u w m) : Int) = (k : Int)) ∧ (q9d [iD u, iD w])) zk ⟨(by first | rfl | exact cf_hit hi zo m zo | (rw [show m = k by omega]; exact hi) | omega), rfl⟩
  ·have hx4 : ¬ (((List.getD b (k * 2) 0) ≤ u) ∧ (w ≤ (List.getD b ((k * 2) + 1) 0))) := of_decide_eq_false hx2
   refine y9s [.no, .no, .no, .n k, .ds [iD (List.getD b (k * 2) 0), iD (List.getD b ((k * 2) + 1) 0)], .call [0] (bV false) [(0, some (77, .ds [iD u, iD w]))] 1 [] none] ((q9i (k : Int)) ∧ (k < m) ∧ (List.take 2 (List.drop (k * 2) (dI .i64 b)) = [iD (List.getD b (k * 2) 0), iD (List.getD b ((k * 2) + 1) 0)]) ∧ (([iD (List.getD b (k * 2) 0), iD (List.getD b ((k * 2) + 1) 0)] : List D).length = 2) ∧ (Fun 144 [.agg [iC (List.getD b (k * 2) 0), iC (List.getD b ((k * 2) + 1) 0)], .c (.ptr 0 0)] (toG [(0, some (77, .ds [iD u, iD w]))]) 1 (bV false) (toG [(0, some (77, .ds [iD u, iD w]))]) 1)) [(0, sV .i64 b m), (1, .e (.c (.fn 144 [(0, 0)]))), (5, uV k), (7, uV m), (8, uV k), (16, bV false)] ⟨rfl, zo, (dI_lds .i64 b (k * 2) 2 zl09c2), rfl, (by have h0 := (U_Inside1 (List.getD b (k * 2) 0) (List.getD b ((k * 2) + 1) 0) u w); rw [hx2] at h0; exact h0)⟩ ?_
   refine zfs ?_
   refine y9h [.w, .no] ((-9223372036854775808) ≤ ((k : Int) + 1) ∧ ((k : Int) + 1) ≤ 9223372036854775807) [(0, sV .i64 b m), (1, .e (.c (.fn 144 [(0, 0)]))), (7, uV m), (8, iV (↑k + 1))] ⟨by omega, by omega⟩ ?_
   exact Rd.of ⟨((k + 1) : Nat), ⟨zl09c10, (cf_miss hi zo)⟩⟩ [] (P := (q9d (dI .i64 b)) ∧ (q9n m) ∧ (q9i (m : Int)) ∧ (((((k + 1) : Nat) : Int) : Int) = ((k : Int) + 1)) ∧ (q9d [iD u, iD w])) zk ⟨rfl, rfl, rfl, zl09c7, rfl⟩ (show m - (k + 1) < m - k from zl09c9)
 ·refine y9r [.b false] (¬ ((k : Int) < (m : Int))) [(0, sV .i64 b m), (1, .e (.c (.fn 144 [(0, 0)]))), (7, uV m), (8, uV k), (9, bV false)] [(0, some (77, .ds [iD u, iD w]))] 1 zo ?_
  refine AW.seq ?_
  refine zf ?_
  refine AW.exit ?_
  refine y9r [.no] True [(4, iV (-1))] [(0, some (77, .ds [iD u, iD w]))] 1 trivial ?_
  refine AW.ret ?_
  exact EndP.of (.inr rfl) [] (P := (((cfK b u w m) : Int) = (-1)) ∧ (q9d [iD u, iD w])) zk ⟨(by first | rfl | exact cf_hit hi zo m zo | (rw [show m = k by omega]; exact hi) | omega), rfl⟩
theorem U_ContFunc (b : List Int) (m : Nat) (u w : Int) (hb : List.length b = m * 2) (h2 : m ≤ 1000000) : Fun 145 [.c (.d (D.sl (dI .i64 b) m)), .c (.fn 144 [(0, 0)])] (toG [(0, some (77, .ds [iD u, iD w]))]) 1 (.e (.c (.d (D.lit (.bool (coB b u w)))))) (toG [(0, some (77, .ds [iD u, iD w]))]) 1 := by
 refine Fun.mk (n := 9) Tryz.func145 rfl rfl (Nat.le_of_ble_eq_true rfl) ?_
 intro cx hcx
 refine y9r [.no] True [(0, sV .i64 b m), (1, .e (.c (.fn 144 [(0, 0)])))] [(0, some (77, .ds [iD u, iD w]))] 1 trivial ?_
 by_cases hx1 : ((0 : Int) ≤ (cfK b u w m))
 ·refine y9s [.no, .no, .call [0] (iV (cfK b u w m)) [(0, some (77, .ds [iD u, iD w]))] 1 [] none, .b true, .no] ((_) ∧ (((0 : Int) ≤ (cfK b u w m)))) [(4, bV true)] ⟨(U_IndexFunc b m u w zo zo), zo⟩ ?_
  refine AW.ret ?_
  exact EndP.of (.inr rfl) [] (P := ((coB b u w) = true) ∧ (q9d [iD u, iD w])) zk ⟨(by first | exact cf_t hb zo | exact cf_f hb zo), rfl⟩
 ·refine y9s [.no, .no, .call [0] (iV (cfK b u w m)) [(0, some (77, .ds [iD u, iD w]))] 1 [] none, .b false, .no] ((_) ∧ (¬ ((0 : Int) ≤ (cfK b u w m)))) [(4, bV false)] ⟨(U_IndexFunc b m u w zo zo), zo⟩ ?_
  refine AW.ret ?_
  exact EndP.of (.inr rfl) [] (P := ((coB b u w) = false) ∧ (q9d [iD u, iD w])) zk ⟨(by first | exact cf_t hb zo | exact cf_f hb zo), rfl⟩
theorem zl09c3 {p : Prop} (h : p := by first | omega | with_reducible assumption | (simp only [bsD_len, List.length_append, List.length_cons, List.length_nil, List.length_take, List.length_drop, List.length_replicate, List.length_set] <;> omega) | rfl | assumption) : p := h
abbrev t9C6_0 (a : List Int) (n : Nat) (k : Nat) : BC := .ds [iD (List.getD (spS a n) (k * 2) 0), iD (List.getD (spS a n) ((k * 2) + 1) 0)]
theorem U_Inside (a b : List Int) (n m : Nat) (ha : List.length a = n * 2) (hb : List.length b = m * 2) (h3 : n ≤ 9223372036854775807) (h4 : m ≤ 9223372036854775807) : Fun 125 [.agg [.d (D.sl (dI .i64 a) n)], .agg [.d (D.sl (dI .i64 b) m)]] (toG []) 0 (.e (.c (.d (D.lit (.bool (inB (spS a n) (spS b m))))))) (toG []) 0 := by
 refine Fun.mk (n := 24) Tryz.func125 rfl rfl (Nat.le_of_ble_eq_true rfl) ?_
 intro cx hcx
 refine y9r [.no, .no, .no] True [(2, rV 0 0), (3, rV 1 0)] [(0, some (56, .ds [dl a n])), (1, some (56, .ds [dl b m]))] 2 trivial ?_
 have hx1 : ((List.length (spS b m)) = ((spN b m) * 2)) := sp_len (zo)
 have hx2 : (((spN b m) ≤ 64) ∧ ((spN b m) ≤ m)) := sp_le
 refine y9r [.no, .call [] (sV .i64 (spS b m) (spN b m)) [] 0 [] none, .no] _ [(2, rV 0 0), (5, sV .i64 (spS b m) (spN b m))] [(0, some (56, .ds [dl a n]))] 2 (U_spans b m zo zo) ?_
 refine AW.seq ?_
 have hx3 : ((List.length (spS a n)) = ((spN a n) * 2)) := sp_len (zo)
 have hx4 : (((spN a n) ≤ 64) ∧ ((spN a n) ≤ n)) := sp_le
 refine y9r [.no, .call [] (sV .i64 (spS a n) (spN a n)) [] 0 [] none, .no, .no] _ [(5, sV .i64 (spS b m) (spN b m)), (12, sV .i64 (spS a n) (spN a n)), (13, uV (spN a n)), (14, iV 0)] [] 2 (U_spans a n zo zo) ?_
 refine AW.block ?_
 refine AW.loopE 0 hcx (fun (x : {x : Nat // match x with | k => (k ≤ spN a n) ∧ (∀ j, j < k → coB (spS b m) (List.getD (spS a n) (j * 2) 0) (List.getD (spS a n) (j * 2 + 1) 0) = true)}) => match x with | ⟨k, _⟩ => (⟨[(5, sV .i64 (spS b m) (spN b m)), (12, sV .i64 (spS a n) (spN a n)), (13, uV (spN a n)), (14, uV k)], [], 2⟩ : ES)) (fun x => match x with | ⟨k, _⟩ => spN a n - k) ⟨(0 : Nat), ⟨zl09c10, (fun j hj => absurd hj (Nat.not_lt_zero j))⟩⟩ [] (P := (q9d (dI .i64 (spS b m))) ∧ (q9n (spN b m)) ∧ (q9d (dI .i64 (spS a n))) ∧ (q9n (spN a n)) ∧ (q9i (spN a n : Int)) ∧ (q9i 0)) zk ⟨rfl, rfl, rfl, rfl, rfl, rfl⟩ ?_
 rintro ⟨k, hinv0⟩
 obtain ⟨hk, hq⟩ : (k ≤ spN a n) ∧ (∀ j, j < k → coB (spS b m) (List.getD (spS a n) (j * 2) 0) (List.getD (spS a n) (j * 2 + 1) 0) = true) := hinv0
 refine AW.es (l := [(5, sV .i64 (spS b m) (spN b m)), (12, sV .i64 (spS a n) (spN a n)), (13, uV (spN a n)), (14, uV k)]) (g := []) (nx := 2) rfl rfl rfl ?_
 by_cases hx5 : (((k : Nat) : Int) < (((spN a n) : Nat) : Int))
 ·refine y9r [.b true] (((k : Int) < (spN a n : Int))) [(5, sV .i64 (spS b m) (spN b m)), (12, sV .i64 (spS a n) (spN a n)), (13, uV (spN a n)), (14, uV k), (15, bV true)] [] 2 zo ?_
  refine AW.seq ?_
  refine zts ?_
  refine AW.seq ?_
  refine AW.block ?_
  refine y9r [.n k, .ds [iD (List.getD (spS a n) (k * 2) 0), iD (List.getD (spS a n) ((k * 2) + 1) 0)], .no, .no] ((q9i (k : Int)) ∧ (k < (spN a n)) ∧ (List.take 2 (List.drop (k * 2) (dI .i64 (spS a n))) = [iD (List.getD (spS a n) (k * 2) 0), iD (List.getD (spS a n) ((k * 2) + 1) 0)]) ∧ (([iD (List.getD (spS a n) (k * 2) 0), iD (List.getD (spS a n) ((k * 2) + 1) 0)] : List D).length = 2)) [(5, sV .i64 (spS b m) (spN b m)), (7, rV 2 0), (12, sV .i64 (spS a n) (spN a n)), (13, uV (spN a n)), (14, uV k)] [(2, some (77, (t9C6_0 a n k)))] 3 ⟨rfl, zo, (dI_lds .i64 (spS a n) (k * 2) 2 zl09c2), rfl⟩ ?_
  refine y9s [.no, .no] True [(5, sV .i64 (spS b m) (spN b m)), (8, .e (.c (.fn 144 [(2, 0)]))), (12, sV .i64 (spS a n) (spN a n)), (13, uV (spN a n)), (14, uV k)] trivial ?_
  rcases Bool.eq_false_or_eq_true (coB (spS b m) (List.getD (spS a n) (k * 2) 0) (List.getD (spS a n) ((k * 2) + 1) 0)) with hx6 | hx6
  ·refine y9r [.no, .no, .call [2] (bV true) [(0, some (77, (t9C6_0 a n k)))] 1 [] none, .no] (Fun 145 [.c (.d (dl (spS b m) (spN b m))), .c (.fn 144 [(0, 0)])] (toG [(0, some (77, (t9C6_0 a n k)))]) 1 (bV true) (toG [(0, some (77, (t9C6_0 a n k)))]) 1) [(5, sV .i64 (spS b m) (spN b m)), (12, sV .i64 (spS a n) (spN a n)), (13, uV (spN a n)), (14, uV k), (22, bV false)] [] 3 (by have h0 := (U_ContFunc (spS b m) (spN b m) (List.getD (spS a n) (k * 2) 0) (List.getD (spS a n) ((k * 2) + 1) 0) zl09c3 zl09c3); rw [hx6] at h0; exact h0) ?_
   refine zfs ?_
   refine y9h [.w, .no] ((-9223372036854775808) ≤ ((k : Int) + 1) ∧ ((k : Int) + 1) ≤ 9223372036854775807) [(5, sV .i64 (spS b m) (spN b m)), (12, sV .i64 (spS a n) (spN a n)), (13, uV (spN a n)), (14, iV (↑k + 1))] ⟨by omega, by omega⟩ ?_
   exact Rd.of ⟨((k + 1) : Nat), ⟨zl09c10, (fun j hj => (Nat.lt_succ_iff_lt_or_eq.1 hj).elim (hq j) (fun e9 => by subst e9; assumption))⟩⟩ [] (P := (q9d (dI .i64 (spS b m))) ∧ (q9n (spN b m)) ∧ (q9d (dI .i64 (spS a n))) ∧ (q9n (spN a n)) ∧ (q9i (spN a n : Int)) ∧ (((((k + 1) : Nat) : Int) : Int) = ((k : Int) + 1))) zk ⟨rfl, rfl, rfl, rfl, rfl, zl09c7⟩ (show spN a n - (k + 1) < spN a n - k from zl09c9)
  ·refine y9r [.no, .no, .call [2] (bV false) [(0, some (77, (t9C6_0 a n k)))] 1 [] none, .no] (Fun 145 [.c (.d (dl (spS b m) (spN b m))), .c (.fn 144 [(0, 0)])] (toG [(0, some (77, (t9C6_0 a n k)))]) 1 (bV false) (toG [(0, some (77, (t9C6_0 a n k)))]) 1) [(5, sV .i64 (spS b m) (spN b m)), (12, sV .i64 (spS a n) (spN a n)), (13, uV (spN a n)), (14, uV k), (22, bV true)] [] 3 (by have h0 := (U_ContFunc (spS b m) (spN b m) (List.getD (spS a n) (k * 2) 0) (List.getD (spS a n) ((k * 2) + 1) 0) zl09c3 zl09c3); rw [hx6] at h0; exact h0) ?_
   refine zt ?_
   refine y9s [.no] True [(4, bV false)] trivial ?_
   refine AW.ret ?_
   exact EndP.of (.inr rfl) [] (P := ((inB (spS a n) (spS b m)) = false)) zk (by first | exact in_t (sp_len ha) (fun j hj => hq j zo) | exact in_f (k := k) (sp_len ha) zo (by assumption))
 ·refine y9r [.b false] (¬ ((k : Int) < (spN a n : Int))) [(5, sV .i64 (spS b m) (spN b m)), (12, sV .i64 (spS a n) (spN a n)), (13, uV (spN a n)), (14, uV k), (15, bV false)] [] 2 zo ?_
  refine AW.seq ?_
  refine zf ?_
  refine AW.exit ?_
  refine y9r [.no] True [(4, bV true)] [] 2 trivial ?_
  refine AW.ret ?_
  exact EndP.of (.inr rfl) [] (P := ((inB (spS a n) (spS b m)) = true)) zk (by first | exact in_t (sp_len ha) (fun j hj => hq j zo) | exact in_f (k := k) (sp_len ha) zo (by assumption))
theorem U_dist (a b : Int) (ha : -9223372036854775808 ≤ a ∧ a ≤ 9223372036854775807) (hb : -9223372036854775808 ≤ b ∧ b ≤ 9223372036854775807) : Fun 137 [iE a, iE b] (toG []) 0 (.e (.c (.d (D.lit (.int .u64 (dsP a b)))))) (toG []) 0 := by
 refine Fun.mk (n := 18) Tryz.func137 rfl rfl (Nat.le_of_ble_eq_true rfl) ?_
 intro cx hcx
 refine y9r [.no] True [(0, iV a), (1, iV b)] [] 0 trivial ?_
 refine AW.seq ?_
 by_cases hx1 : (b < a)
 ·refine y9s [.no, .no, .b true] ((b < a)) [(0, iV a), (1, iV b), (7, bV true)] zo ?_
  refine zt ?_
  refine y9s [.no, .i (a % 18446744073709551616), .no, .i (b % 18446744073709551616), .i (a - b), .no] ((IntKind.u64.wrap (a : Int) = (a % 18446744073709551616)) ∧ (IntKind.u64.wrap (b : Int) = (b % 18446744073709551616)) ∧ (IntKind.u64.wrap (((a % 18446744073709551616) - (b % 18446744073709551616)) : Int) = (a - b))) [(4, .e (.c (.d (D.lit (.int .u64 (a - b))))))] ⟨(wrap_u64 _), (wrap_u64 _), (by rw [wrap_u64]; omega)⟩ ?_
  refine AW.ret ?_
  exact EndP.of (.inr rfl) [] (P := (((dsP a b) : Int) = (a - b))) zk (by unfold dsP; split <;> omega)
 ·refine y9s [.no, .no, .b false] (¬ (b < a)) [(0, iV a), (1, iV b), (7, bV false)] zo ?_
  refine zfs ?_
  refine y9s [.no, .i (b % 18446744073709551616), .no, .i (a % 18446744073709551616), .i (b - a), .no] ((IntKind.u64.wrap (b : Int) = (b % 18446744073709551616)) ∧ (IntKind.u64.wrap (a : Int) = (a % 18446744073709551616)) ∧ (IntKind.u64.wrap (((b % 18446744073709551616) - (a % 18446744073709551616)) : Int) = (b - a))) [(4, .e (.c (.d (D.lit (.int .u64 (b - a))))))] ⟨(wrap_u64 _), (wrap_u64 _), (by rw [wrap_u64]; omega)⟩ ?_
  refine AW.ret ?_
  exact EndP.of (.inr rfl) [] (P := (((dsP a b) : Int) = (b - a))) zk (by unfold dsP; split <;> omega)
theorem U_away (a b : Int) (ha : -9223372036854775808 ≤ a ∧ a ≤ 9223372036854775807) (hb : -9223372036854775808 ≤ b ∧ b ≤ 9223372036854775807) : Fun 138 [iE a, iE b] (toG []) 0 (.e (.c (.d (D.lit (.int .u64 (dsP a b)))))) (toG []) 0 := by
 refine Fun.mk (n := 18) Tryz.func138 rfl rfl (Nat.le_of_ble_eq_true rfl) ?_
 intro cx hcx
 refine y9r [.no] True [(0, iV a), (1, iV b)] [] 0 trivial ?_
 refine AW.seq ?_
 by_cases hx1 : (a < b)
 ·refine y9s [.no, .no, .b true] ((a < b)) [(0, iV a), (1, iV b), (7, bV true)] zo ?_
  refine zt ?_
  refine y9s [.no, .i (b % 18446744073709551616), .no, .i (a % 18446744073709551616), .i (b - a), .no] ((IntKind.u64.wrap (b : Int) = (b % 18446744073709551616)) ∧ (IntKind.u64.wrap (a : Int) = (a % 18446744073709551616)) ∧ (IntKind.u64.wrap (((b % 18446744073709551616) - (a % 18446744073709551616)) : Int) = (b - a))) [(4, .e (.c (.d (D.lit (.int .u64 (b - a))))))] ⟨(wrap_u64 _), (wrap_u64 _), (by rw [wrap_u64]; omega)⟩ ?_
  refine AW.ret ?_
  exact EndP.of (.inr rfl) [] (P := (((dsP a b) : Int) = (b - a))) zk (by unfold dsP; split <;> omega)
 ·refine y9s [.no, .no, .b false] (¬ (a < b)) [(0, iV a), (1, iV b), (7, bV false)] zo ?_
  refine zfs ?_
  refine y9s [.no, .i (a % 18446744073709551616), .no, .i (b % 18446744073709551616), .i (a - b), .no] ((IntKind.u64.wrap (a : Int) = (a % 18446744073709551616)) ∧ (IntKind.u64.wrap (b : Int) = (b % 18446744073709551616)) ∧ (IntKind.u64.wrap (((a % 18446744073709551616) - (b % 18446744073709551616)) : Int) = (a - b))) [(4, .e (.c (.d (D.lit (.int .u64 (a - b))))))] ⟨(wrap_u64 _), (wrap_u64 _), (by rw [wrap_u64]; omega)⟩ ?_
  refine AW.ret ?_
  exact EndP.of (.inr rfl) [] (P := (((dsP a b) : Int) = (a - b))) zk (by unfold dsP; split <;> omega)
theorem zl09c11 {p : Prop} (h : p := by first | rfl | assumption | simp) : p := h
theorem U_Near (l : List Int) (n : Nat) (z : Int) (hl : List.length l = n * 2) (hb : n ≤ 9223372036854775807) (hz : -9223372036854775808 ≤ z ∧ z ≤ 9223372036854775807) : Fun 100 [.agg [.d (D.sl (dI .i64 l) n)], iE z] (toG []) 0 (.tup [iE (neV z (spS l n)), .c (.d (D.lit (.bool (nrF z (spS l n)))))]) (toG []) 0 := by
 refine Fun.mk (n := 40) Tryz.func100 rfl rfl (Nat.le_of_ble_eq_true rfl) ?_
 intro cx hcx
 refine y9r [.no, .no, .no] True [(1, iV z), (2, rV 0 0)] [(0, some (56, .ds [dl l n]))] 1 trivial ?_
 refine y9s [.no, .no] True [(1, iV z), (2, rV 0 0), (6, iV 0), (7, bV false)] trivial ?_
 refine AW.seq ?_
 have hx1 : ((List.length (spS l n)) = ((spN l n) * 2)) := sp_len (zo)
 have hx2 : (((spN l n) ≤ 64) ∧ ((spN l n) ≤ n)) := sp_le
 refine y9r [.no, .call [] (sV .i64 (spS l n) (spN l n)) [] 0 [] none, .no, .no] _ [(1, iV z), (6, iV 0), (7, bV false), (12, sV .i64 (spS l n) (spN l n)), (13, uV (spN l n)), (14, iV 0)] [] 1 (U_spans l n zo zo) ?_
 refine AW.block ?_
 refine AW.loopE 0 hcx (fun (x : {x : Nat × Int × Bool // match x with | (i, y, f) => (i ≤ spN l n ∧ -9223372036854775808 ≤ y ∧ y ≤ 9223372036854775807) ∧ (NR z (spS l n) i y f)}) => match x with | ⟨(i, y, f), _⟩ => (⟨[(1, iV z), (6, iV y), (7, .e (.c (.d (D.lit (.bool (f)))))), (12, sV .i64 (spS l n) (spN l n)), (13, uV (spN l n)), (14, uV i)], [], 1⟩ : ES)) (fun x => match x with | ⟨(i, y, f), _⟩ => spN l n - i) ⟨((0 : Nat), (0 : Int), (false : Bool)), ⟨zl09c10, (NR.zero _ _)⟩⟩ [] (P := (q9i z) ∧ (q9i 0) ∧ ((false) = false) ∧ (q9d (dI .i64 (spS l n))) ∧ (q9n (spN l n)) ∧ (q9i (spN l n : Int)) ∧ (q9i 0)) zk ⟨rfl, rfl, zl09c11, rfl, rfl, rfl, rfl⟩ ?_
 rintro ⟨⟨i, y, f⟩, hinv0⟩
 obtain ⟨hi, hN⟩ : (i ≤ spN l n ∧ -9223372036854775808 ≤ y ∧ y ≤ 9223372036854775807) ∧ (NR z (spS l n) i y f) := hinv0
 refine AW.es (l := [(1, iV z), (6, iV y), (7, .e (.c (.d (D.lit (.bool (f)))))), (12, sV .i64 (spS l n) (spN l n)), (13, uV (spN l n)), (14, uV i)]) (g := []) (nx := 1) rfl rfl rfl ?_
 by_cases hx3 : (((i : Nat) : Int) < (((spN l n) : Nat) : Int))
 ·have hx4 : 0 ≤ List.getD (spS l n) (i * 2) 0 ∧ List.getD (spS l n) (i * 2) 0 ≤ List.getD (spS l n) (i * 2 + 1) 0 ∧ List.getD (spS l n) (i * 2 + 1) 0 ≤ 2147483647 := sp_rg hl i zo
  refine y9r [.b true] (((i : Int) < (spN l n : Int))) [(1, iV z), (6, iV y), (7, .e (.c (.d (D.lit (.bool (f)))))), (12, sV .i64 (spS l n) (spN l n)), (13, uV (spN l n)), (14, uV i), (15, bV true)] [] 1 zo ?_
  refine AW.seq ?_
  refine zts ?_
  refine AW.seq ?_
  refine AW.block ?_
  refine y9r [.n i, .ds [iD (List.getD (spS l n) (i * 2) 0), iD (List.getD (spS l n) ((i * 2) + 1) 0)], .no, .no] ((q9i (i : Int)) ∧ (i < (spN l n)) ∧ (List.take 2 (List.drop (i * 2) (dI .i64 (spS l n))) = [iD (List.getD (spS l n) (i * 2) 0), iD (List.getD (spS l n) ((i * 2) + 1) 0)]) ∧ (([iD (List.getD (spS l n) (i * 2) 0), iD (List.getD (spS l n) ((i * 2) + 1) 0)] : List D).length = 2)) [(1, iV z), (6, iV y), (7, .e (.c (.d (D.lit (.bool (f)))))), (9, rV 1 0), (12, sV .i64 (spS l n) (spN l n)), (13, uV (spN l n)), (14, uV i)] [(1, some (77, .ds [iD (List.getD (spS l n) (i * 2) 0), iD (List.getD (spS l n) ((i * 2) + 1) 0)]))] 2 ⟨rfl, zo, (dI_lds .i64 (spS l n) (i * 2) 2 zl09c2), rfl⟩ ?_
  refine y9r (nz9 8 []) True [(1, iV z), (6, iV y), (7, .e (.c (.d (D.lit (.bool (f)))))), (10, iV (min (max z (List.getD (spS l n) (i * 2) 0)) (List.getD (spS l n) ((i * 2) + 1) 0))), (12, sV .i64 (spS l n) (spN l n)), (13, uV (spN l n)), (14, uV i)] [] 2 trivial ?_
  rcases Bool.eq_false_or_eq_true (f) with hx5 | hx5
  ·subst hx5
   by_cases hx8 : ((dsP (min (max z (List.getD (spS l n) (i * 2) 0)) (List.getD (spS l n) ((i * 2) + 1) 0)) z) < (dsP y z))
   ·have hx9 : ((0 : Int) ≤ (dsP (min (max z (List.getD (spS l n) (i * 2) 0)) (List.getD (spS l n) ((i * 2) + 1) 0)) z)) := ds_rng
    have hx10 : ((0 : Int) ≤ (dsP y z)) := ds_rng
    refine y9r (nz9 5 [.call [] (.e (.c (.d (D.lit (.int .u64 (dsP (min (max z (List.getD (spS l n) (i * 2) 0)) (List.getD (spS l n) ((i * 2) + 1) 0)) z)))))) [] 0 [] none, .no, .no, .call [] (.e (.c (.d (D.lit (.int .u64 (dsP y z)))))) [] 0 [] none, .b true, .no]) ((_) ∧ (_) ∧ (((dsP (min (max z (List.getD (spS l n) (i * 2) 0)) (List.getD (spS l n) ((i * 2) + 1) 0)) z) < (dsP y z)))) [(1, iV z), (6, iV y), (7, bV true), (10, iV (min (max z (List.getD (spS l n) (i * 2) 0)) (List.getD (spS l n) ((i * 2) + 1) 0))), (12, sV .i64 (spS l n) (spN l n)), (13, uV (spN l n)), (14, uV i), (35, bV true)] [] 2 ⟨(U_dist (min (max z (List.getD (spS l n) (i * 2) 0)) (List.getD (spS l n) ((i * 2) + 1) 0)) z zl09c3 zo), (U_dist y z zo zo), zo⟩ ?_
    refine zt ?_
    refine y9h [.no, .no, .no] True [(1, iV z), (6, iV (min (max z (List.getD (spS l n) (i * 2) 0)) (List.getD (spS l n) ((i * 2) + 1) 0))), (7, bV true), (12, sV .i64 (spS l n) (spN l n)), (13, uV (spN l n)), (14, uV i)] trivial ?_
    refine y9h [.w, .no] ((-9223372036854775808) ≤ ((i : Int) + 1) ∧ ((i : Int) + 1) ≤ 9223372036854775807) [(1, iV z), (6, iV (min (max z (List.getD (spS l n) (i * 2) 0)) (List.getD (spS l n) ((i * 2) + 1) 0))), (7, bV true), (12, sV .i64 (spS l n) (spN l n)), (13, uV (spN l n)), (14, iV (↑i + 1))] ⟨by omega, by omega⟩ ?_
    exact Rd.of ⟨(((i + 1) : Nat), ((min (max z (List.getD (spS l n) (i * 2) 0)) (List.getD (spS l n) ((i * 2) + 1) 0)) : Int), (true : Bool)), ⟨zl09c10, (by first | exact hN.first (sp_len hl) zo (by show _ = max _ (min _ z); first | (simp only; done) | (simp only; omega) | omega) | exact hN.near (sp_len hl) zo (by show _ = max _ (min _ z); first | (simp only; done) | (simp only; omega) | omega) zo | exact hN.far (sp_len hl) zo (by assumption) (by show _ = max _ (min _ z); first | (simp only; done) | (simp only; omega) | omega))⟩⟩ [] (P := (q9i z) ∧ (q9i (min (max z (List.getD (spS l n) (i * 2) 0)) (List.getD (spS l n) ((i * 2) + 1) 0))) ∧ ((true) = true) ∧ (q9d (dI .i64 (spS l n))) ∧ (q9n (spN l n)) ∧ (q9i (spN l n : Int)) ∧ (((((i + 1) : Nat) : Int) : Int) = ((i : Int) + 1))) zk ⟨rfl, rfl, zl09c11, rfl, rfl, rfl, zl09c7⟩ (show spN l n - (i + 1) < spN l n - i from zl09c9)
   ·have hx11 : ((0 : Int) ≤ (dsP (min (max z (List.getD (spS l n) (i * 2) 0)) (List.getD (spS l n) ((i * 2) + 1) 0)) z)) := ds_rng
    have hx12 : ((0 : Int) ≤ (dsP y z)) := ds_rng
    refine y9r (nz9 5 [.call [] (.e (.c (.d (D.lit (.int .u64 (dsP (min (max z (List.getD (spS l n) (i * 2) 0)) (List.getD (spS l n) ((i * 2) + 1) 0)) z)))))) [] 0 [] none, .no, .no, .call [] (.e (.c (.d (D.lit (.int .u64 (dsP y z)))))) [] 0 [] none, .b false, .no]) ((_) ∧ (_) ∧ (¬ ((dsP (min (max z (List.getD (spS l n) (i * 2) 0)) (List.getD (spS l n) ((i * 2) + 1) 0)) z) < (dsP y z)))) [(1, iV z), (6, iV y), (7, bV true), (10, iV (min (max z (List.getD (spS l n) (i * 2) 0)) (List.getD (spS l n) ((i * 2) + 1) 0))), (12, sV .i64 (spS l n) (spN l n)), (13, uV (spN l n)), (14, uV i), (35, bV false)] [] 2 ⟨(U_dist (min (max z (List.getD (spS l n) (i * 2) 0)) (List.getD (spS l n) ((i * 2) + 1) 0)) z zl09c3 zo), (U_dist y z zo zo), zo⟩ ?_
    refine zfs ?_
    refine y9h [.w, .no] ((-9223372036854775808) ≤ ((i : Int) + 1) ∧ ((i : Int) + 1) ≤ 9223372036854775807) [(1, iV z), (6, iV y), (7, bV true), (12, sV .i64 (spS l n) (spN l n)), (13, uV (spN l n)), (14, iV (↑i + 1))] ⟨by omega, by omega⟩ ?_
    exact Rd.of ⟨(((i + 1) : Nat), (y : Int), (true : Bool)), ⟨zl09c10, (by first | exact hN.first (sp_len hl) zo (by show _ = max _ (min _ z); first | (simp only; done) | (simp only; omega) | omega) | exact hN.near (sp_len hl) zo (by show _ = max _ (min _ z); first | (simp only; done) | (simp only; omega) | omega) zo | exact hN.far (sp_len hl) zo (by assumption) (by show _ = max _ (min _ z); first | (simp only; done) | (simp only; omega) | omega))⟩⟩ [] (P := (q9i z) ∧ (q9i y) ∧ ((true) = true) ∧ (q9d (dI .i64 (spS l n))) ∧ (q9n (spN l n)) ∧ (q9i (spN l n : Int)) ∧ (((((i + 1) : Nat) : Int) : Int) = ((i : Int) + 1))) zk ⟨rfl, rfl, zl09c11, rfl, rfl, rfl, zl09c7⟩ (show spN l n - (i + 1) < spN l n - i from zl09c9)
  ·subst hx5
   refine y9r (nz9 4 []) True [(1, iV z), (6, iV y), (7, bV false), (10, iV (min (max z (List.getD (spS l n) (i * 2) 0)) (List.getD (spS l n) ((i * 2) + 1) 0))), (12, sV .i64 (spS l n) (spN l n)), (13, uV (spN l n)), (14, uV i), (35, bV true)] [] 2 trivial ?_
   refine zt ?_
   refine y9h [.no, .no, .no] True [(1, iV z), (6, iV (min (max z (List.getD (spS l n) (i * 2) 0)) (List.getD (spS l n) ((i * 2) + 1) 0))), (7, bV true), (12, sV .i64 (spS l n) (spN l n)), (13, uV (spN l n)), (14, uV i)] trivial ?_
   refine y9h [.w, .no] ((-9223372036854775808) ≤ ((i : Int) + 1) ∧ ((i : Int) + 1) ≤ 9223372036854775807) [(1, iV z), (6, iV (min (max z (List.getD (spS l n) (i * 2) 0)) (List.getD (spS l n) ((i * 2) + 1) 0))), (7, bV true), (12, sV .i64 (spS l n) (spN l n)), (13, uV (spN l n)), (14, iV (↑i + 1))] ⟨by omega, by omega⟩ ?_
   exact Rd.of ⟨(((i + 1) : Nat), ((min (max z (List.getD (spS l n) (i * 2) 0)) (List.getD (spS l n) ((i * 2) + 1) 0)) : Int), (true : Bool)), ⟨zl09c10, (by first | exact hN.first (sp_len hl) zo (by show _ = max _ (min _ z); first | (simp only; done) | (simp only; omega) | omega) | exact hN.near (sp_len hl) zo (by show _ = max _ (min _ z); first | (simp only; done) | (simp only; omega) | omega) zo | exact hN.far (sp_len hl) zo (by assumption) (by show _ = max _ (min _ z); first | (simp only; done) | (simp only; omega) | omega))⟩⟩ [] (P := (q9i z) ∧ (q9i (min (max z (List.getD (spS l n) (i * 2) 0)) (List.getD (spS l n) ((i * 2) + 1) 0))) ∧ ((true) = true) ∧ (q9d (dI .i64 (spS l n))) ∧ (q9n (spN l n)) ∧ (q9i (spN l n : Int)) ∧ (((((i + 1) : Nat) : Int) : Int) = ((i : Int) + 1))) zk ⟨rfl, rfl, zl09c11, rfl, rfl, rfl, zl09c7⟩ (show spN l n - (i + 1) < spN l n - i from zl09c9)
 ·refine y9r [.b false] (¬ ((i : Int) < (spN l n : Int))) [(1, iV z), (6, iV y), (7, .e (.c (.d (D.lit (.bool (f)))))), (12, sV .i64 (spS l n) (spN l n)), (13, uV (spN l n)), (14, uV i), (15, bV false)] [] 1 zo ?_
  refine AW.seq ?_
  refine zf ?_
  refine AW.exit ?_
  refine y9r (nz9 4 []) True [(4, iV y), (5, .e (.c (.d (D.lit (.bool (f))))))] [] 1 trivial ?_
  obtain ⟨hz1, hz2⟩ := hN.fin (sp_len hl) zo
  refine AW.ret ?_
  exact EndP.of (.inr rfl) [] (P := (((neV z (spS l n)) : Int) = y) ∧ ((nrF z (spS l n)) = (f))) zk ⟨zl09c8, hz2⟩
theorem U_rNear (l : List Int) (n : Nat) (z : Int) (hl : List.length l = n * 2) (hb : n ≤ 9223372036854775807) (hz : -9223372036854775808 ≤ z ∧ z ≤ 9223372036854775807) : Fun 104 [.agg [.d (D.sl (dI .i64 l) n)], iE z] (toG []) 0 (.tup [iE (neV z (spS l n)), .c (.d (D.lit (.bool (nrF z (spS l n)))))]) (toG []) 0 := by
 refine Fun.mk (n := 40) Tryz.func104 rfl rfl (Nat.le_of_ble_eq_true rfl) ?_
 intro cx hcx
 refine y9r [.no, .no, .no] True [(1, iV z), (2, rV 0 0)] [(0, some (56, .ds [dl l n]))] 1 trivial ?_
 refine y9s [.no, .no] True [(1, iV z), (2, rV 0 0), (6, iV 0), (7, bV false)] trivial ?_
 refine AW.seq ?_
 have hx1 : ((List.length (spS l n)) = ((spN l n) * 2)) := sp_len (zo)
 have hx2 : (((spN l n) ≤ 64) ∧ ((spN l n) ≤ n)) := sp_le
 refine y9r [.no, .call [] (sV .i64 (spS l n) (spN l n)) [] 0 [] none, .no, .no] _ [(1, iV z), (6, iV 0), (7, bV false), (12, sV .i64 (spS l n) (spN l n)), (13, uV (spN l n)), (14, iV 0)] [] 1 (U_rspans l n zo zo) ?_
 refine AW.block ?_
 refine AW.loopE 0 hcx (fun (x : {x : Nat × Int × Bool // match x with | (i, y, f) => (i ≤ spN l n ∧ -9223372036854775808 ≤ y ∧ y ≤ 9223372036854775807) ∧ (NR z (spS l n) i y f)}) => match x with | ⟨(i, y, f), _⟩ => (⟨[(1, iV z), (6, iV y), (7, .e (.c (.d (D.lit (.bool (f)))))), (12, sV .i64 (spS l n) (spN l n)), (13, uV (spN l n)), (14, uV i)], [], 1⟩ : ES)) (fun x => match x with | ⟨(i, y, f), _⟩ => spN l n - i) ⟨((0 : Nat), (0 : Int), (false : Bool)), ⟨zl09c10, (NR.zero _ _)⟩⟩ [] (P := (q9i z) ∧ (q9i 0) ∧ ((false) = false) ∧ (q9d (dI .i64 (spS l n))) ∧ (q9n (spN l n)) ∧ (q9i (spN l n : Int)) ∧ (q9i 0)) zk ⟨rfl, rfl, zl09c11, rfl, rfl, rfl, rfl⟩ ?_
 rintro ⟨⟨i, y, f⟩, hinv0⟩
 obtain ⟨hi, hN⟩ : (i ≤ spN l n ∧ -9223372036854775808 ≤ y ∧ y ≤ 9223372036854775807) ∧ (NR z (spS l n) i y f) := hinv0
 refine AW.es (l := [(1, iV z), (6, iV y), (7, .e (.c (.d (D.lit (.bool (f)))))), (12, sV .i64 (spS l n) (spN l n)), (13, uV (spN l n)), (14, uV i)]) (g := []) (nx := 1) rfl rfl rfl ?_
 by_cases hx3 : (((i : Nat) : Int) < (((spN l n) : Nat) : Int))
 ·have hx4 : 0 ≤ List.getD (spS l n) (i * 2) 0 ∧ List.getD (spS l n) (i * 2) 0 ≤ List.getD (spS l n) (i * 2 + 1) 0 ∧ List.getD (spS l n) (i * 2 + 1) 0 ≤ 2147483647 := sp_rg hl i zo
  refine y9r [.b true] (((i : Int) < (spN l n : Int))) [(1, iV z), (6, iV y), (7, .e (.c (.d (D.lit (.bool (f)))))), (12, sV .i64 (spS l n) (spN l n)), (13, uV (spN l n)), (14, uV i), (15, bV true)] [] 1 zo ?_
  refine AW.seq ?_
  refine zts ?_
  refine AW.seq ?_
  refine AW.block ?_
  refine y9r [.n i, .ds [iD (List.getD (spS l n) (i * 2) 0), iD (List.getD (spS l n) ((i * 2) + 1) 0)], .no, .no] ((q9i (i : Int)) ∧ (i < (spN l n)) ∧ (List.take 2 (List.drop (i * 2) (dI .i64 (spS l n))) = [iD (List.getD (spS l n) (i * 2) 0), iD (List.getD (spS l n) ((i * 2) + 1) 0)]) ∧ (([iD (List.getD (spS l n) (i * 2) 0), iD (List.getD (spS l n) ((i * 2) + 1) 0)] : List D).length = 2)) [(1, iV z), (6, iV y), (7, .e (.c (.d (D.lit (.bool (f)))))), (9, rV 1 0), (12, sV .i64 (spS l n) (spN l n)), (13, uV (spN l n)), (14, uV i)] [(1, some (77, .ds [iD (List.getD (spS l n) (i * 2) 0), iD (List.getD (spS l n) ((i * 2) + 1) 0)]))] 2 ⟨rfl, zo, (dI_lds .i64 (spS l n) (i * 2) 2 zl09c2), rfl⟩ ?_
  refine y9r (nz9 8 []) True [(1, iV z), (6, iV y), (7, .e (.c (.d (D.lit (.bool (f)))))), (10, iV (max (List.getD (spS l n) (i * 2) 0) (min (List.getD (spS l n) ((i * 2) + 1) 0) z))), (12, sV .i64 (spS l n) (spN l n)), (13, uV (spN l n)), (14, uV i)] [] 2 trivial ?_
  rcases Bool.eq_false_or_eq_true (f) with hx5 | hx5
  ·subst hx5
   by_cases hx8 : ((dsP (max (List.getD (spS l n) (i * 2) 0) (min (List.getD (spS l n) ((i * 2) + 1) 0) z)) z) < (dsP y z))
   ·have hx9 : ((0 : Int) ≤ (dsP (max (List.getD (spS l n) (i * 2) 0) (min (List.getD (spS l n) ((i * 2) + 1) 0) z)) z)) := ds_rng
    have hx10 : ((0 : Int) ≤ (dsP y z)) := ds_rng
    refine y9r (nz9 5 [.call [] (.e (.c (.d (D.lit (.int .u64 (dsP (max (List.getD (spS l n) (i * 2) 0) (min (List.getD (spS l n) ((i * 2) + 1) 0) z)) z)))))) [] 0 [] none, .no, .no, .call [] (.e (.c (.d (D.lit (.int .u64 (dsP y z)))))) [] 0 [] none, .b true, .no]) ((_) ∧ (_) ∧ (((dsP (max (List.getD (spS l n) (i * 2) 0) (min (List.getD (spS l n) ((i * 2) + 1) 0) z)) z) < (dsP y z)))) [(1, iV z), (6, iV y), (7, bV true), (10, iV (max (List.getD (spS l n) (i * 2) 0) (min (List.getD (spS l n) ((i * 2) + 1) 0) z))), (12, sV .i64 (spS l n) (spN l n)), (13, uV (spN l n)), (14, uV i), (35, bV true)] [] 2 ⟨(U_away (max (List.getD (spS l n) (i * 2) 0) (min (List.getD (spS l n) ((i * 2) + 1) 0) z)) z zl09c3 zo), (U_away y z zo zo), zo⟩ ?_
    refine zt ?_
    refine y9h [.no, .no, .no] True [(1, iV z), (6, iV (max (List.getD (spS l n) (i * 2) 0) (min (List.getD (spS l n) ((i * 2) + 1) 0) z))), (7, bV true), (12, sV .i64 (spS l n) (spN l n)), (13, uV (spN l n)), (14, uV i)] trivial ?_
    refine y9h [.w, .no] ((-9223372036854775808) ≤ ((i : Int) + 1) ∧ ((i : Int) + 1) ≤ 9223372036854775807) [(1, iV z), (6, iV (max (List.getD (spS l n) (i * 2) 0) (min (List.getD (spS l n) ((i * 2) + 1) 0) z))), (7, bV true), (12, sV .i64 (spS l n) (spN l n)), (13, uV (spN l n)), (14, iV (↑i + 1))] ⟨by omega, by omega⟩ ?_
    exact Rd.of ⟨(((i + 1) : Nat), ((max (List.getD (spS l n) (i * 2) 0) (min (List.getD (spS l n) ((i * 2) + 1) 0) z)) : Int), (true : Bool)), ⟨zl09c10, (by first | exact hN.first (sp_len hl) zo (by show _ = max _ (min _ z); first | (simp only; done) | (simp only; omega) | omega) | exact hN.near (sp_len hl) zo (by show _ = max _ (min _ z); first | (simp only; done) | (simp only; omega) | omega) zo | exact hN.far (sp_len hl) zo (by assumption) (by show _ = max _ (min _ z); first | (simp only; done) | (simp only; omega) | omega))⟩⟩ [] (P := (q9i z) ∧ (q9i (max (List.getD (spS l n) (i * 2) 0) (min (List.getD (spS l n) ((i * 2) + 1) 0) z))) ∧ ((true) = true) ∧ (q9d (dI .i64 (spS l n))) ∧ (q9n (spN l n)) ∧ (q9i (spN l n : Int)) ∧ (((((i + 1) : Nat) : Int) : Int) = ((i : Int) + 1))) zk ⟨rfl, rfl, zl09c11, rfl, rfl, rfl, zl09c7⟩ (show spN l n - (i + 1) < spN l n - i from zl09c9)
   ·have hx11 : ((0 : Int) ≤ (dsP (max (List.getD (spS l n) (i * 2) 0) (min (List.getD (spS l n) ((i * 2) + 1) 0) z)) z)) := ds_rng
    have hx12 : ((0 : Int) ≤ (dsP y z)) := ds_rng
    refine y9r (nz9 5 [.call [] (.e (.c (.d (D.lit (.int .u64 (dsP (max (List.getD (spS l n) (i * 2) 0) (min (List.getD (spS l n) ((i * 2) + 1) 0) z)) z)))))) [] 0 [] none, .no, .no, .call [] (.e (.c (.d (D.lit (.int .u64 (dsP y z)))))) [] 0 [] none, .b false, .no]) ((_) ∧ (_) ∧ (¬ ((dsP (max (List.getD (spS l n) (i * 2) 0) (min (List.getD (spS l n) ((i * 2) + 1) 0) z)) z) < (dsP y z)))) [(1, iV z), (6, iV y), (7, bV true), (10, iV (max (List.getD (spS l n) (i * 2) 0) (min (List.getD (spS l n) ((i * 2) + 1) 0) z))), (12, sV .i64 (spS l n) (spN l n)), (13, uV (spN l n)), (14, uV i), (35, bV false)] [] 2 ⟨(U_away (max (List.getD (spS l n) (i * 2) 0) (min (List.getD (spS l n) ((i * 2) + 1) 0) z)) z zl09c3 zo), (U_away y z zo zo), zo⟩ ?_
    refine zfs ?_
    refine y9h [.w, .no] ((-9223372036854775808) ≤ ((i : Int) + 1) ∧ ((i : Int) + 1) ≤ 9223372036854775807) [(1, iV z), (6, iV y), (7, bV true), (12, sV .i64 (spS l n) (spN l n)), (13, uV (spN l n)), (14, iV (↑i + 1))] ⟨by omega, by omega⟩ ?_
    exact Rd.of ⟨(((i + 1) : Nat), (y : Int), (true : Bool)), ⟨zl09c10, (by first | exact hN.first (sp_len hl) zo (by show _ = max _ (min _ z); first | (simp only; done) | (simp only; omega) | omega) | exact hN.near (sp_len hl) zo (by show _ = max _ (min _ z); first | (simp only; done) | (simp only; omega) | omega) zo | exact hN.far (sp_len hl) zo (by assumption) (by show _ = max _ (min _ z); first | (simp only; done) | (simp only; omega) | omega))⟩⟩ [] (P := (q9i z) ∧ (q9i y) ∧ ((true) = true) ∧ (q9d (dI .i64 (spS l n))) ∧ (q9n (spN l n)) ∧ (q9i (spN l n : Int)) ∧ (((((i + 1) : Nat) : Int) : Int) = ((i : Int) + 1))) zk ⟨rfl, rfl, zl09c11, rfl, rfl, rfl, zl09c7⟩ (show spN l n - (i + 1) < spN l n - i from zl09c9)
  ·subst hx5
   refine y9r (nz9 4 []) True [(1, iV z), (6, iV y), (7, bV false), (10, iV (max (List.getD (spS l n) (i * 2) 0) (min (List.getD (spS l n) ((i * 2) + 1) 0) z))), (12, sV .i64 (spS l n) (spN l n)), (13, uV (spN l n)), (14, uV i), (35, bV true)] [] 2 trivial ?_
   refine zt ?_
   refine y9h [.no, .no, .no] True [(1, iV z), (6, iV (max (List.getD (spS l n) (i * 2) 0) (min (List.getD (spS l n) ((i * 2) + 1) 0) z))), (7, bV true), (12, sV .i64 (spS l n) (spN l n)), (13, uV (spN l n)), (14, uV i)] trivial ?_
   refine y9h [.w, .no] ((-9223372036854775808) ≤ ((i : Int) + 1) ∧ ((i : Int) + 1) ≤ 9223372036854775807) [(1, iV z), (6, iV (max (List.getD (spS l n) (i * 2) 0) (min (List.getD (spS l n) ((i * 2) + 1) 0) z))), (7, bV true), (12, sV .i64 (spS l n) (spN l n)), (13, uV (spN l n)), (14, iV (↑i + 1))] ⟨by omega, by omega⟩ ?_
   exact Rd.of ⟨(((i + 1) : Nat), ((max (List.getD (spS l n) (i * 2) 0) (min (List.getD (spS l n) ((i * 2) + 1) 0) z)) : Int), (true : Bool)), ⟨zl09c10, (by first | exact hN.first (sp_len hl) zo (by show _ = max _ (min _ z); first | (simp only; done) | (simp only; omega) | omega) | exact hN.near (sp_len hl) zo (by show _ = max _ (min _ z); first | (simp only; done) | (simp only; omega) | omega) zo | exact hN.far (sp_len hl) zo (by assumption) (by show _ = max _ (min _ z); first | (simp only; done) | (simp only; omega) | omega))⟩⟩ [] (P := (q9i z) ∧ (q9i (max (List.getD (spS l n) (i * 2) 0) (min (List.getD (spS l n) ((i * 2) + 1) 0) z))) ∧ ((true) = true) ∧ (q9d (dI .i64 (spS l n))) ∧ (q9n (spN l n)) ∧ (q9i (spN l n : Int)) ∧ (((((i + 1) : Nat) : Int) : Int) = ((i : Int) + 1))) zk ⟨rfl, rfl, zl09c11, rfl, rfl, rfl, zl09c7⟩ (show spN l n - (i + 1) < spN l n - i from zl09c9)
 ·refine y9r [.b false] (¬ ((i : Int) < (spN l n : Int))) [(1, iV z), (6, iV y), (7, .e (.c (.d (D.lit (.bool (f)))))), (12, sV .i64 (spS l n) (spN l n)), (13, uV (spN l n)), (14, uV i), (15, bV false)] [] 1 zo ?_
  refine AW.seq ?_
  refine zf ?_
  refine AW.exit ?_
  refine y9r (nz9 4 []) True [(4, iV y), (5, .e (.c (.d (D.lit (.bool (f))))))] [] 1 trivial ?_
  obtain ⟨hz1, hz2⟩ := hN.fin (sp_len hl) zo
  refine AW.ret ?_
  exact EndP.of (.inr rfl) [] (P := (((neV z (spS l n)) : Int) = y) ∧ ((nrF z (spS l n)) = (f))) zk ⟨zl09c8, hz2⟩
end Go.Proofs.YtcfmjpnffembpaaGreat
