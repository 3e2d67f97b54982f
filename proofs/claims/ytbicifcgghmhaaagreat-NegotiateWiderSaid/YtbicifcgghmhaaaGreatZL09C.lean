/- Sets of integers: C. No statement is proved here. -/
import Derived.Test.YtbicifcgghmhaaaGreatZL09B
namespace Go.Proofs.YtbicifcgghmhaaaGreat
open Go.ChangeShapes Go.WideShapes Go.ChangeAt Go.RowKit
open Bool renaming eq_false_or_eq_true → ka9
open List renaming drop → ka3, drop_zero → kd3, getD → ka1, length → ka0, length_append → ka8, length_cons → kb0, length_drop → kb6, length_map → kc3, length_nil → kb2, length_replicate → kb5, length_reverse → kc0, length_set → kc1, length_take → kb4, take → ka5
open Nat renaming le_of_ble_eq_true → ka4, mul_one → kc6
set_option linter.unusedVariables false
set_option linter.unusedSimpArgs false
set_option maxHeartbeats 4000000
set_option maxRecDepth 100000
theorem bL {p : Prop} (h : p := by (rw [List.drop_drop]; exact yF _ _ _ (by (simp only [y5, qQ, ka8, kb0, kb2, kb4, kb6, kb5, kc1, kc3, kc0, kc6] <;> omega)))) : p := h
theorem mG {p : Prop} (h : p := by (simp only [y5, qQ, ka8, kb0, kb2, kb4, kb6, kb5, kc1, kc3, kc0, kc6] <;> omega)) : p := h
theorem rA {p : Prop} (h : p := by simp only [s6, l3, Nat.zero_mul, Nat.one_mul, kd3]) : p := h
theorem zX {p : Prop} (h : p := by rw [kd3, List.take_of_length_le (by (simp only [y5, qQ, ka8, kb0, kb2, kb4, kb6, kb5, kc1, kc3, kc0, kc6] <;> omega))]) : p := h
abbrev u6w (i : Nat) (a : List Int) (n : Nat) (j : Nat) (b : List Int) (m : Nat) : BC := .ds [iD (max (ka1 (ka3 (i * 2) (kB a n)) 0 0) (ka1 (ka3 (j * 2) (kB b m)) 0 0)), iD (min (ka1 (ka3 (i * 2) (kB a n)) 1 0) (ka1 (ka3 (j * 2) (kB b m)) 1 0))]
theorem f0 (a b : List Int) (n m : Nat) (ha : ka0 a = n * 2) (hb : ka0 b = m * 2) (h3 : n ≤ 9223372036854775807) (h4 : m ≤ 9223372036854775807) : Fun 162 [.agg [.d (D.sl (dI .i64 a) n)], .agg [.d (D.sl (dI .i64 b) m)]] (kF []) 0 (.e (.agg [.d (D.sl (dI .i64 (uF (kB a n) (kB b m))) (qK (kB a n) (kB b m)))])) (kF []) 0 := by
 refine Fun.mk (n := 69) Tryz.func162 rfl rfl (ka4 rfl) ?_
 intro cx hcx
 refine kH [.no, .no, .no] True [(2, rV 0 0), (3, rV 1 0), (4, rV 2 0)] [(0, some (60, .ds [dl a n])), (1, some (60, .ds [dl b m])), (2, some (60, .ds [qI]))] 3 trivial ?_
 refine kS [.no] True [(2, rV 0 0), (3, rV 1 0), (4, rV 2 0), (5, nV)] trivial ?_
 have hx1 : ((ka0 (kB a n)) = ((kZ a n) * 2)) := qR (zo)
 have hx2 : (((kZ a n) ≤ 64) ∧ ((kZ a n) ≤ n)) := j8
 have hx3 : ((ka0 (kB b m)) = ((kZ b m) * 2)) := qR (zo)
 have hx4 : (((kZ b m) ≤ 64) ∧ ((kZ b m) ≤ m)) := j8
 refine kH [.no, .call [] (sV .i64 (kB a n) (kZ a n)) [] 0 [] none, .no, .call [] (sV .i64 (kB b m) (kZ b m)) [] 0 [] none, .no, .no] ((_) ∧ (_)) [(4, rV 2 0), (5, nV), (6, sV .i64 (kB a n) (kZ a n)), (7, sV .i64 (kB b m) (kZ b m))] [(2, some (60, .ds [qI]))] 3 ⟨(fY a n zo zo), (fY b m zo zo)⟩ ?_
 refine AW.seq ?_
 refine AW.block ?_
 refine AW.adoptS 5 2 95 rfl ?_
 refine k8 0 hcx (fun (x : {x : Nat × Nat × Nat × List Int // match x with | (i, j, k, o) => (i ≤ kZ a n ∧ j ≤ kZ b m ∧ k ≤ 64) ∧ (IX (kB a n) (kB b m) i j k o) ∧ (ka0 o = k * 2)}) => match x with | ⟨(i, j, k, o), _⟩ => (⟨[(4, rV 2 0), (5, oV 4 0 k 2), (6, sV .i64 (ka3 (i * 2) (kB a n)) ((kZ a n) - i)), (7, sV .i64 (ka3 (j * 2) (kB b m)) ((kZ b m) - j))], [(2, some (60, .ds [qI])), (4, some (95, .ds (dI .i64 o)))], 5⟩ : ES)) (fun x => match x with | ⟨(i, j, k, o), _⟩ => (kZ a n - i) + (kZ b m - j)) ⟨((0 : Nat), (0 : Nat), (0 : Nat), (([] : List Int) : List Int)), ⟨zo, (IX.zero _ _), rfl⟩⟩ [(4, 3)] (P := (kG 0) ∧ (kG 0) ∧ (kG 0) ∧ (((dI .i64 (ka3 0 (kB a n))) : List D) = (dI .i64 (kB a n))) ∧ ((((kZ a n) - 0) : Nat) = (kZ a n)) ∧ (((dI .i64 (ka3 0 (kB b m))) : List D) = (dI .i64 (kB b m))) ∧ ((((kZ b m) - 0) : Nat) = (kZ b m)) ∧ (kJ [qI]) ∧ (((dI .i64 ([] : List Int)) : List D) = ([] : List D))) zk ⟨rfl, rfl, rfl, (by rfl), (by rfl), (by rfl), (by rfl), rfl, (by rfl)⟩ ?_
 rintro ⟨⟨i, j, k, o⟩, hinv0⟩
 obtain ⟨hi, hX, ho⟩ : (i ≤ kZ a n ∧ j ≤ kZ b m ∧ k ≤ 64) ∧ (IX (kB a n) (kB b m) i j k o) ∧ (ka0 o = k * 2) := hinv0
 refine qW (l := [(4, rV 2 0), (5, oV 4 0 k 2), (6, sV .i64 (ka3 (i * 2) (kB a n)) ((kZ a n) - i)), (7, sV .i64 (ka3 (j * 2) (kB b m)) ((kZ b m) - j))]) (g := [(2, some (60, .ds [qI])), (4, some (95, .ds (dI .i64 o)))]) (nx := 5) rfl rfl rfl ?_
 refine AW.seq ?_
 by_cases hx5 : ((0 : Int) < ((((kZ a n) - i) : Nat) : Int))
 ·by_cases hx6 : ((0 : Int) < ((((kZ b m) - j) : Nat) : Int))
  ·by_cases hx7 : (((k : Nat) : Int) < 64)
   ·refine kH [.no, .no, .b true, .no, .no, .no, .b true, .no, .no, .no, .no, .b true, .no] ((((0 : Int) < ((((kZ a n) - i) : Nat) : Int))) ∧ (((0 : Int) < ((((kZ b m) - j) : Nat) : Int))) ∧ (((k : Int) < 64))) [(4, rV 2 0), (5, oV 4 0 k 2), (6, sV .i64 (ka3 (i * 2) (kB a n)) ((kZ a n) - i)), (7, sV .i64 (ka3 (j * 2) (kB b m)) ((kZ b m) - j)), (25, bV true)] [(2, some (60, .ds [qI])), (4, some (95, .ds (dI .i64 o)))] 5 ⟨zo, zo, zo⟩ ?_
    refine vL ?_
    refine AW.block ?_
    have hx8 : ka1 (ka3 (i * 2) (kB a n)) 0 0 = ka1 (kB a n) (i * 2) 0 := dN
    have hx9 : ka1 (ka3 (i * 2) (kB a n)) 1 0 = ka1 (kB a n) (i * 2 + 1) 0 := dN
    have hx10 : ka1 (ka3 (j * 2) (kB b m)) 0 0 = ka1 (kB b m) (j * 2) 0 := dN
    have hx11 : ka1 (ka3 (j * 2) (kB b m)) 1 0 = ka1 (kB b m) (j * 2 + 1) 0 := dN
    refine kH [.no, .n 0, .no, .d (D.lit (.int .i64 (ka1 (ka3 (i * 2) (kB a n)) 0 0))), .no, .n 0, .no, .d (D.lit (.int .i64 (ka1 (ka3 (j * 2) (kB b m)) 0 0))), .no, .no, .n 0, .no, .d (D.lit (.int .i64 (ka1 (ka3 (i * 2) (kB a n)) 1 0))), .no, .n 0, .no, .d (D.lit (.int .i64 (ka1 (ka3 (j * 2) (kB b m)) 1 0))), .no, .no, .no, .no] ((kM 0) ∧ ((0 : Nat) < ((kZ a n) - i)) ∧ ((ka3 0 (ka3 0 (dI .i64 (ka3 (i * 2) (kB a n)))))[0]? = some (D.lit (.int .i64 (ka1 (ka3 (i * 2) (kB a n)) 0 0)))) ∧ (kM 0) ∧ ((0 : Nat) < ((kZ b m) - j)) ∧ ((ka3 0 (ka3 0 (dI .i64 (ka3 (j * 2) (kB b m)))))[0]? = some (D.lit (.int .i64 (ka1 (ka3 (j * 2) (kB b m)) 0 0)))) ∧ (kM 0) ∧ ((0 : Nat) < ((kZ a n) - i)) ∧ ((ka3 1 (ka3 0 (dI .i64 (ka3 (i * 2) (kB a n)))))[0]? = some (D.lit (.int .i64 (ka1 (ka3 (i * 2) (kB a n)) 1 0)))) ∧ (kM 0) ∧ ((0 : Nat) < ((kZ b m) - j)) ∧ ((ka3 1 (ka3 0 (dI .i64 (ka3 (j * 2) (kB b m)))))[0]? = some (D.lit (.int .i64 (ka1 (ka3 (j * 2) (kB b m)) 1 0))))) [(4, rV 2 0), (5, oV 4 0 k 2), (6, sV .i64 (ka3 (i * 2) (kB a n)) ((kZ a n) - i)), (7, sV .i64 (ka3 (j * 2) (kB b m)) ((kZ b m) - j)), (8, rV 5 0)] [(2, some (60, .ds [qI])), (4, some (95, .ds (dI .i64 o))), (5, some (95, (u6w i a n j b m)))] 6 ⟨rfl, zo, bL, rfl, zo, bL, rfl, zo, bL, rfl, zo, bL⟩ ?_
    refine AW.seq ?_
    by_cases hx12 : ((max (ka1 (ka3 (i * 2) (kB a n)) 0 0) (ka1 (ka3 (j * 2) (kB b m)) 0 0)) ≤ (min (ka1 (ka3 (i * 2) (kB a n)) 1 0) (ka1 (ka3 (j * 2) (kB b m)) 1 0)))
    ·refine kS (qE 4 [.b true]) (((max (ka1 (ka3 (i * 2) (kB a n)) 0 0) (ka1 (ka3 (j * 2) (kB b m)) 0 0)) ≤ (min (ka1 (ka3 (i * 2) (kB a n)) 1 0) (ka1 (ka3 (j * 2) (kB b m)) 1 0)))) [(4, rV 2 0), (5, oV 4 0 k 2), (6, sV .i64 (ka3 (i * 2) (kB a n)) ((kZ a n) - i)), (7, sV .i64 (ka3 (j * 2) (kB b m)) ((kZ b m) - j)), (8, rV 5 0), (49, bV true)] zo ?_
     refine zt ?_
     refine aC [.no, .no, .no, .ap none (k + 1) (dI .i64 (o ++ ([(max (ka1 (ka3 (i * 2) (kB a n)) 0 0) (ka1 (ka3 (j * 2) (kB b m)) 0 0)), (min (ka1 (ka3 (i * 2) (kB a n)) 1 0) (ka1 (ka3 (j * 2) (kB b m)) 1 0))] : List Int))), .no] (([iD (max (ka1 (ka3 (i * 2) (kB a n)) 0 0) (ka1 (ka3 (j * 2) (kB b m)) 0 0)), iD (min (ka1 (ka3 (i * 2) (kB a n)) 1 0) (ka1 (ka3 (j * 2) (kB b m)) 1 0))].length = 1 * 2) ∧ (((dI .i64 o) : List D).length = k * 2) ∧ ((k + 1) * 16 ≤ 140737488355328) ∧ (k + 1 = (k + 1)) ∧ (((dI .i64 o) : List D) ++ [iD (max (ka1 (ka3 (i * 2) (kB a n)) 0 0) (ka1 (ka3 (j * 2) (kB b m)) 0 0)), iD (min (ka1 (ka3 (i * 2) (kB a n)) 1 0) (ka1 (ka3 (j * 2) (kB b m)) 1 0))] = (dI .i64 (o ++ ([(max (ka1 (ka3 (i * 2) (kB a n)) 0 0) (ka1 (ka3 (j * 2) (kB b m)) 0 0)), (min (ka1 (ka3 (i * 2) (kB a n)) 1 0) (ka1 (ka3 (j * 2) (kB b m)) 1 0))] : List Int))))) [(4, rV 2 0), (5, oV 7 0 (k + 1) 2), (6, sV .i64 (ka3 (i * 2) (kB a n)) ((kZ a n) - i)), (7, sV .i64 (ka3 (j * 2) (kB b m)) ((kZ b m) - j))] [(2, some (60, .ds [qI])), (7, some (95, .ds (dI .i64 (o ++ ([(max (ka1 (ka3 (i * 2) (kB a n)) 0 0) (ka1 (ka3 (j * 2) (kB b m)) 0 0)), (min (ka1 (ka3 (i * 2) (kB a n)) 1 0) (ka1 (ka3 (j * 2) (kB b m)) 1 0))] : List Int)))))] 8 ⟨mG, mG, zo, zo, (a8 .i64 o ([(max (ka1 (ka3 (i * 2) (kB a n)) 0 0) (ka1 (ka3 (j * 2) (kB b m)) 0 0)), (min (ka1 (ka3 (i * 2) (kB a n)) 1 0) (ka1 (ka3 (j * 2) (kB b m)) 1 0))] : List Int))⟩ ?_
     by_cases hx13 : ((ka1 (ka3 (i * 2) (kB a n)) 1 0) < (ka1 (ka3 (j * 2) (kB b m)) 1 0))
     ·refine kS [.no, .n 0, .no, .d (D.lit (.int .i64 (ka1 (ka3 (i * 2) (kB a n)) 1 0))), .no, .n 0, .no, .d (D.lit (.int .i64 (ka1 (ka3 (j * 2) (kB b m)) 1 0))), .b true] ((kM 0) ∧ ((0 : Nat) < ((kZ a n) - i)) ∧ ((ka3 1 (ka3 0 (dI .i64 (ka3 (i * 2) (kB a n)))))[0]? = some (D.lit (.int .i64 (ka1 (ka3 (i * 2) (kB a n)) 1 0)))) ∧ (kM 0) ∧ ((0 : Nat) < ((kZ b m) - j)) ∧ ((ka3 1 (ka3 0 (dI .i64 (ka3 (j * 2) (kB b m)))))[0]? = some (D.lit (.int .i64 (ka1 (ka3 (j * 2) (kB b m)) 1 0)))) ∧ (((ka1 (ka3 (i * 2) (kB a n)) 1 0) < (ka1 (ka3 (j * 2) (kB b m)) 1 0)))) [(4, rV 2 0), (5, oV 7 0 (k + 1) 2), (6, sV .i64 (ka3 (i * 2) (kB a n)) ((kZ a n) - i)), (7, sV .i64 (ka3 (j * 2) (kB b m)) ((kZ b m) - j)), (62, bV true)] ⟨rfl, zo, bL, rfl, zo, bL, zo⟩ ?_
      refine zt ?_
      refine yA [.no, .sls 1 ((kZ a n) - i) (((kZ a n) - i) - 1) (dI .i64 (ka5 ((((kZ a n) - i) - 1) * 2) (ka3 2 (ka3 (i * 2) (kB a n))))), .no] ((kM 1) ∧ (((kZ a n) - i) = ((kZ a n) - i)) ∧ ((1 : Nat) ≤ ((kZ a n) - i)) ∧ (((kZ a n) - i) ≤ ((kZ a n) - i)) ∧ (((kZ a n) - i) - 1 = (((kZ a n) - i) - 1)) ∧ (ka5 ((((kZ a n) - i) - 1) * 2) (ka3 (1 * 2) (dI .i64 (ka3 (i * 2) (kB a n)))) = (dI .i64 (ka5 ((((kZ a n) - i) - 1) * 2) (ka3 2 (ka3 (i * 2) (kB a n))))))) [(4, rV 2 0), (5, oV 7 0 (k + 1) 2), (6, sV .i64 (ka5 ((((kZ a n) - i) - 1) * 2) (ka3 2 (ka3 (i * 2) (kB a n)))) (((kZ a n) - i) - 1)), (7, sV .i64 (ka3 (j * 2) (kB b m)) ((kZ b m) - j))] ⟨rfl, rfl, zo, zo, zo, rA⟩ ?_
      exact kW ⟨(((i + 1) : Nat), (j : Nat), ((k + 1) : Nat), ((o ++ ([(max (ka1 (ka3 (i * 2) (kB a n)) 0 0) (ka1 (ka3 (j * 2) (kB b m)) 0 0)), (min (ka1 (ka3 (i * 2) (kB a n)) 1 0) (ka1 (ka3 (j * 2) (kB b m)) 1 0))] : List Int)) : List Int)), ⟨zo, (by exact hX.ly (qR ha) (qR hb) (bC ha) (bC hb) zo zo zo zo zo zo), (by (simp only [y5, ka8, kb0, kb2] <;> omega))⟩⟩ [(4, 7)] (P := (kG 0) ∧ (kG 0) ∧ (kG (k + 1)) ∧ (((dI .i64 (ka3 ((i + 1) * 2) (kB a n))) : List D) = (dI .i64 (ka5 ((((kZ a n) - i) - 1) * 2) (ka3 2 (ka3 (i * 2) (kB a n)))))) ∧ ((((kZ a n) - (i + 1)) : Nat) = (((kZ a n) - i) - 1)) ∧ (kJ (dI .i64 (ka3 (j * 2) (kB b m)))) ∧ (kG ((kZ b m) - j)) ∧ (kJ [qI]) ∧ (kJ (dI .i64 (o ++ ([(max (ka1 (ka3 (i * 2) (kB a n)) 0 0) (ka1 (ka3 (j * 2) (kB b m)) 0 0)), (min (ka1 (ka3 (i * 2) (kB a n)) 1 0) (ka1 (ka3 (j * 2) (kB b m)) 1 0))] : List Int))))) zk ⟨rfl, rfl, rfl, (by exact dp1 (qR ha)), (by rfl), rfl, rfl, rfl, rfl⟩ (show (kZ a n - (i + 1)) + (kZ b m - j) < (kZ a n - i) + (kZ b m - j) from zo)
     ·refine kS [.no, .n 0, .no, .d (D.lit (.int .i64 (ka1 (ka3 (i * 2) (kB a n)) 1 0))), .no, .n 0, .no, .d (D.lit (.int .i64 (ka1 (ka3 (j * 2) (kB b m)) 1 0))), .b false] ((kM 0) ∧ ((0 : Nat) < ((kZ a n) - i)) ∧ ((ka3 1 (ka3 0 (dI .i64 (ka3 (i * 2) (kB a n)))))[0]? = some (D.lit (.int .i64 (ka1 (ka3 (i * 2) (kB a n)) 1 0)))) ∧ (kM 0) ∧ ((0 : Nat) < ((kZ b m) - j)) ∧ ((ka3 1 (ka3 0 (dI .i64 (ka3 (j * 2) (kB b m)))))[0]? = some (D.lit (.int .i64 (ka1 (ka3 (j * 2) (kB b m)) 1 0)))) ∧ (¬ ((ka1 (ka3 (i * 2) (kB a n)) 1 0) < (ka1 (ka3 (j * 2) (kB b m)) 1 0)))) [(4, rV 2 0), (5, oV 7 0 (k + 1) 2), (6, sV .i64 (ka3 (i * 2) (kB a n)) ((kZ a n) - i)), (7, sV .i64 (ka3 (j * 2) (kB b m)) ((kZ b m) - j)), (62, bV false)] ⟨rfl, zo, bL, rfl, zo, bL, zo⟩ ?_
      refine zf ?_
      refine yA [.no, .sls 1 ((kZ b m) - j) (((kZ b m) - j) - 1) (dI .i64 (ka5 ((((kZ b m) - j) - 1) * 2) (ka3 2 (ka3 (j * 2) (kB b m))))), .no] ((kM 1) ∧ (((kZ b m) - j) = ((kZ b m) - j)) ∧ ((1 : Nat) ≤ ((kZ b m) - j)) ∧ (((kZ b m) - j) ≤ ((kZ b m) - j)) ∧ (((kZ b m) - j) - 1 = (((kZ b m) - j) - 1)) ∧ (ka5 ((((kZ b m) - j) - 1) * 2) (ka3 (1 * 2) (dI .i64 (ka3 (j * 2) (kB b m)))) = (dI .i64 (ka5 ((((kZ b m) - j) - 1) * 2) (ka3 2 (ka3 (j * 2) (kB b m))))))) [(4, rV 2 0), (5, oV 7 0 (k + 1) 2), (6, sV .i64 (ka3 (i * 2) (kB a n)) ((kZ a n) - i)), (7, sV .i64 (ka5 ((((kZ b m) - j) - 1) * 2) (ka3 2 (ka3 (j * 2) (kB b m)))) (((kZ b m) - j) - 1))] ⟨rfl, rfl, zo, zo, zo, rA⟩ ?_
      exact kW ⟨((i : Nat), ((j + 1) : Nat), ((k + 1) : Nat), ((o ++ ([(max (ka1 (ka3 (i * 2) (kB a n)) 0 0) (ka1 (ka3 (j * 2) (kB b m)) 0 0)), (min (ka1 (ka3 (i * 2) (kB a n)) 1 0) (ka1 (ka3 (j * 2) (kB b m)) 1 0))] : List Int)) : List Int)), ⟨zo, (by exact hX.ry (qR ha) (qR hb) (bC ha) (bC hb) zo zo zo zo zo zo), (by (simp only [y5, ka8, kb0, kb2] <;> omega))⟩⟩ [(4, 7)] (P := (kG 0) ∧ (kG 0) ∧ (kG (k + 1)) ∧ (kJ (dI .i64 (ka3 (i * 2) (kB a n)))) ∧ (kG ((kZ a n) - i)) ∧ (((dI .i64 (ka3 ((j + 1) * 2) (kB b m))) : List D) = (dI .i64 (ka5 ((((kZ b m) - j) - 1) * 2) (ka3 2 (ka3 (j * 2) (kB b m)))))) ∧ ((((kZ b m) - (j + 1)) : Nat) = (((kZ b m) - j) - 1)) ∧ (kJ [qI]) ∧ (kJ (dI .i64 (o ++ ([(max (ka1 (ka3 (i * 2) (kB a n)) 0 0) (ka1 (ka3 (j * 2) (kB b m)) 0 0)), (min (ka1 (ka3 (i * 2) (kB a n)) 1 0) (ka1 (ka3 (j * 2) (kB b m)) 1 0))] : List Int))))) zk ⟨rfl, rfl, rfl, rfl, rfl, (by exact dp1 (qR hb)), (by rfl), rfl, rfl⟩ (show (kZ a n - i) + (kZ b m - (j + 1)) < (kZ a n - i) + (kZ b m - j) from zo)
    ·refine kS (qE 4 [.b false]) (¬ ((max (ka1 (ka3 (i * 2) (kB a n)) 0 0) (ka1 (ka3 (j * 2) (kB b m)) 0 0)) ≤ (min (ka1 (ka3 (i * 2) (kB a n)) 1 0) (ka1 (ka3 (j * 2) (kB b m)) 1 0)))) [(4, rV 2 0), (5, oV 4 0 k 2), (6, sV .i64 (ka3 (i * 2) (kB a n)) ((kZ a n) - i)), (7, sV .i64 (ka3 (j * 2) (kB b m)) ((kZ b m) - j)), (8, rV 5 0), (49, bV false)] zo ?_
     refine uO ?_
     by_cases hx14 : ((ka1 (ka3 (i * 2) (kB a n)) 1 0) < (ka1 (ka3 (j * 2) (kB b m)) 1 0))
     ·refine kH [.no, .n 0, .no, .d (D.lit (.int .i64 (ka1 (ka3 (i * 2) (kB a n)) 1 0))), .no, .n 0, .no, .d (D.lit (.int .i64 (ka1 (ka3 (j * 2) (kB b m)) 1 0))), .b true] ((kM 0) ∧ ((0 : Nat) < ((kZ a n) - i)) ∧ ((ka3 1 (ka3 0 (dI .i64 (ka3 (i * 2) (kB a n)))))[0]? = some (D.lit (.int .i64 (ka1 (ka3 (i * 2) (kB a n)) 1 0)))) ∧ (kM 0) ∧ ((0 : Nat) < ((kZ b m) - j)) ∧ ((ka3 1 (ka3 0 (dI .i64 (ka3 (j * 2) (kB b m)))))[0]? = some (D.lit (.int .i64 (ka1 (ka3 (j * 2) (kB b m)) 1 0)))) ∧ (((ka1 (ka3 (i * 2) (kB a n)) 1 0) < (ka1 (ka3 (j * 2) (kB b m)) 1 0)))) [(4, rV 2 0), (5, oV 4 0 k 2), (6, sV .i64 (ka3 (i * 2) (kB a n)) ((kZ a n) - i)), (7, sV .i64 (ka3 (j * 2) (kB b m)) ((kZ b m) - j)), (62, bV true)] [(2, some (60, .ds [qI])), (4, some (95, .ds (dI .i64 o)))] 6 ⟨rfl, zo, bL, rfl, zo, bL, zo⟩ ?_
      refine zt ?_
      refine yA [.no, .sls 1 ((kZ a n) - i) (((kZ a n) - i) - 1) (dI .i64 (ka5 ((((kZ a n) - i) - 1) * 2) (ka3 2 (ka3 (i * 2) (kB a n))))), .no] ((kM 1) ∧ (((kZ a n) - i) = ((kZ a n) - i)) ∧ ((1 : Nat) ≤ ((kZ a n) - i)) ∧ (((kZ a n) - i) ≤ ((kZ a n) - i)) ∧ (((kZ a n) - i) - 1 = (((kZ a n) - i) - 1)) ∧ (ka5 ((((kZ a n) - i) - 1) * 2) (ka3 (1 * 2) (dI .i64 (ka3 (i * 2) (kB a n)))) = (dI .i64 (ka5 ((((kZ a n) - i) - 1) * 2) (ka3 2 (ka3 (i * 2) (kB a n))))))) [(4, rV 2 0), (5, oV 4 0 k 2), (6, sV .i64 (ka5 ((((kZ a n) - i) - 1) * 2) (ka3 2 (ka3 (i * 2) (kB a n)))) (((kZ a n) - i) - 1)), (7, sV .i64 (ka3 (j * 2) (kB b m)) ((kZ b m) - j))] ⟨rfl, rfl, zo, zo, zo, rA⟩ ?_
      exact kW ⟨(((i + 1) : Nat), (j : Nat), (k : Nat), (o : List Int)), ⟨zo, (by exact hX.ln (qR ha) (qR hb) (bC ha) (bC hb) zo zo zo zo), (by assumption)⟩⟩ [] (P := (kG 0) ∧ (kG 0) ∧ (kG k) ∧ (((dI .i64 (ka3 ((i + 1) * 2) (kB a n))) : List D) = (dI .i64 (ka5 ((((kZ a n) - i) - 1) * 2) (ka3 2 (ka3 (i * 2) (kB a n)))))) ∧ ((((kZ a n) - (i + 1)) : Nat) = (((kZ a n) - i) - 1)) ∧ (kJ (dI .i64 (ka3 (j * 2) (kB b m)))) ∧ (kG ((kZ b m) - j)) ∧ (kJ [qI]) ∧ (kJ (dI .i64 o))) zk ⟨rfl, rfl, rfl, (by exact dp1 (qR ha)), (by rfl), rfl, rfl, rfl, rfl⟩ (show (kZ a n - (i + 1)) + (kZ b m - j) < (kZ a n - i) + (kZ b m - j) from zo)
     ·refine kH [.no, .n 0, .no, .d (D.lit (.int .i64 (ka1 (ka3 (i * 2) (kB a n)) 1 0))), .no, .n 0, .no, .d (D.lit (.int .i64 (ka1 (ka3 (j * 2) (kB b m)) 1 0))), .b false] ((kM 0) ∧ ((0 : Nat) < ((kZ a n) - i)) ∧ ((ka3 1 (ka3 0 (dI .i64 (ka3 (i * 2) (kB a n)))))[0]? = some (D.lit (.int .i64 (ka1 (ka3 (i * 2) (kB a n)) 1 0)))) ∧ (kM 0) ∧ ((0 : Nat) < ((kZ b m) - j)) ∧ ((ka3 1 (ka3 0 (dI .i64 (ka3 (j * 2) (kB b m)))))[0]? = some (D.lit (.int .i64 (ka1 (ka3 (j * 2) (kB b m)) 1 0)))) ∧ (¬ ((ka1 (ka3 (i * 2) (kB a n)) 1 0) < (ka1 (ka3 (j * 2) (kB b m)) 1 0)))) [(4, rV 2 0), (5, oV 4 0 k 2), (6, sV .i64 (ka3 (i * 2) (kB a n)) ((kZ a n) - i)), (7, sV .i64 (ka3 (j * 2) (kB b m)) ((kZ b m) - j)), (62, bV false)] [(2, some (60, .ds [qI])), (4, some (95, .ds (dI .i64 o)))] 6 ⟨rfl, zo, bL, rfl, zo, bL, zo⟩ ?_
      refine zf ?_
      refine yA [.no, .sls 1 ((kZ b m) - j) (((kZ b m) - j) - 1) (dI .i64 (ka5 ((((kZ b m) - j) - 1) * 2) (ka3 2 (ka3 (j * 2) (kB b m))))), .no] ((kM 1) ∧ (((kZ b m) - j) = ((kZ b m) - j)) ∧ ((1 : Nat) ≤ ((kZ b m) - j)) ∧ (((kZ b m) - j) ≤ ((kZ b m) - j)) ∧ (((kZ b m) - j) - 1 = (((kZ b m) - j) - 1)) ∧ (ka5 ((((kZ b m) - j) - 1) * 2) (ka3 (1 * 2) (dI .i64 (ka3 (j * 2) (kB b m)))) = (dI .i64 (ka5 ((((kZ b m) - j) - 1) * 2) (ka3 2 (ka3 (j * 2) (kB b m))))))) [(4, rV 2 0), (5, oV 4 0 k 2), (6, sV .i64 (ka3 (i * 2) (kB a n)) ((kZ a n) - i)), (7, sV .i64 (ka5 ((((kZ b m) - j) - 1) * 2) (ka3 2 (ka3 (j * 2) (kB b m)))) (((kZ b m) - j) - 1))] ⟨rfl, rfl, zo, zo, zo, rA⟩ ?_
      exact kW ⟨((i : Nat), ((j + 1) : Nat), (k : Nat), (o : List Int)), ⟨zo, (by exact hX.rn (qR ha) (qR hb) (bC ha) (bC hb) zo zo zo zo), (by assumption)⟩⟩ [] (P := (kG 0) ∧ (kG 0) ∧ (kG k) ∧ (kJ (dI .i64 (ka3 (i * 2) (kB a n)))) ∧ (kG ((kZ a n) - i)) ∧ (((dI .i64 (ka3 ((j + 1) * 2) (kB b m))) : List D) = (dI .i64 (ka5 ((((kZ b m) - j) - 1) * 2) (ka3 2 (ka3 (j * 2) (kB b m)))))) ∧ ((((kZ b m) - (j + 1)) : Nat) = (((kZ b m) - j) - 1)) ∧ (kJ [qI]) ∧ (kJ (dI .i64 o))) zk ⟨rfl, rfl, rfl, rfl, rfl, (by exact dp1 (qR hb)), (by rfl), rfl, rfl⟩ (show (kZ a n - i) + (kZ b m - (j + 1)) < (kZ a n - i) + (kZ b m - j) from zo)
   ·refine kH [.no, .no, .b true, .no, .no, .no, .b true, .no, .no, .no, .no, .b false, .no] ((((0 : Int) < ((((kZ a n) - i) : Nat) : Int))) ∧ (((0 : Int) < ((((kZ b m) - j) : Nat) : Int))) ∧ (¬ ((k : Int) < 64))) [(4, rV 2 0), (5, oV 4 0 k 2), (6, sV .i64 (ka3 (i * 2) (kB a n)) ((kZ a n) - i)), (7, sV .i64 (ka3 (j * 2) (kB b m)) ((kZ b m) - j)), (25, bV false)] [(2, some (60, .ds [qI])), (4, some (95, .ds (dI .i64 o)))] 5 ⟨zo, zo, zo⟩ ?_
    refine zf ?_
    refine AW.exit ?_
    refine kH [.no, .no, .no] True [(4, rV 2 0)] [(2, some (60, .cs [.own 4 0 k 2 true])), (4, some (95, .ds (dI .i64 o)))] 5 trivial ?_
    obtain ⟨hz1, hz2⟩ := hX.fin (qR ha) (qR hb) zo zo
    refine AW.freeze 4 (l' := [(4, rV 2 0)]) (g' := [(2, some (60, .ds [dl o k]))]) rfl (FzS.cons rfl (.same _) FzS.nil) (FzG.to (bc := .cs [.own 4 0 k 2 true]) rfl (by rfl) (FzL.cons (@FzC.own 4 ((dI .i64 o) : List D) 0 k 2 true ((dI .i64 o) : List D) zX mG) FzL.nil) FzG.nil) ?_
    refine AW.ret ?_
    exact kA (.inr rfl) [] (P := (((dI .i64 (uF (kB a n) (kB b m))) : List D) = (dI .i64 o)) ∧ (((qK (kB a n) (kB b m)) : Nat) = k)) zk ⟨(by exact congrArg _ hz1.symm), zo⟩
  ·refine kH [.no, .no, .b true, .no, .no, .no, .b false, .no, .no, .no] ((((0 : Int) < ((((kZ a n) - i) : Nat) : Int))) ∧ (¬ ((0 : Int) < ((((kZ b m) - j) : Nat) : Int)))) [(4, rV 2 0), (5, oV 4 0 k 2), (6, sV .i64 (ka3 (i * 2) (kB a n)) ((kZ a n) - i)), (7, sV .i64 (ka3 (j * 2) (kB b m)) ((kZ b m) - j)), (25, bV false)] [(2, some (60, .ds [qI])), (4, some (95, .ds (dI .i64 o)))] 5 ⟨zo, zo⟩ ?_
   refine zf ?_
   refine AW.exit ?_
   refine kH [.no, .no, .no] True [(4, rV 2 0)] [(2, some (60, .cs [.own 4 0 k 2 true])), (4, some (95, .ds (dI .i64 o)))] 5 trivial ?_
   obtain ⟨hz1, hz2⟩ := hX.fin (qR ha) (qR hb) zo zo
   refine AW.freeze 4 (l' := [(4, rV 2 0)]) (g' := [(2, some (60, .ds [dl o k]))]) rfl (FzS.cons rfl (.same _) FzS.nil) (FzG.to (bc := .cs [.own 4 0 k 2 true]) rfl (by rfl) (FzL.cons (@FzC.own 4 ((dI .i64 o) : List D) 0 k 2 true ((dI .i64 o) : List D) zX mG) FzL.nil) FzG.nil) ?_
   refine AW.ret ?_
   exact kA (.inr rfl) [] (P := (((dI .i64 (uF (kB a n) (kB b m))) : List D) = (dI .i64 o)) ∧ (((qK (kB a n) (kB b m)) : Nat) = k)) zk ⟨(by exact congrArg _ hz1.symm), zo⟩
 ·refine kH (.no :: .no :: .b false :: qE 4 []) (¬ ((0 : Int) < ((((kZ a n) - i) : Nat) : Int))) [(4, rV 2 0), (5, oV 4 0 k 2), (6, sV .i64 (ka3 (i * 2) (kB a n)) ((kZ a n) - i)), (7, sV .i64 (ka3 (j * 2) (kB b m)) ((kZ b m) - j)), (25, bV false)] [(2, some (60, .ds [qI])), (4, some (95, .ds (dI .i64 o)))] 5 zo ?_
  refine zf ?_
  refine AW.exit ?_
  refine kH [.no, .no, .no] True [(4, rV 2 0)] [(2, some (60, .cs [.own 4 0 k 2 true])), (4, some (95, .ds (dI .i64 o)))] 5 trivial ?_
  obtain ⟨hz1, hz2⟩ := hX.fin (qR ha) (qR hb) zo zo
  refine AW.freeze 4 (l' := [(4, rV 2 0)]) (g' := [(2, some (60, .ds [dl o k]))]) rfl (FzS.cons rfl (.same _) FzS.nil) (FzG.to (bc := .cs [.own 4 0 k 2 true]) rfl (by rfl) (FzL.cons (@FzC.own 4 ((dI .i64 o) : List D) 0 k 2 true ((dI .i64 o) : List D) zX mG) FzL.nil) FzG.nil) ?_
  refine AW.ret ?_
  exact kA (.inr rfl) [] (P := (((dI .i64 (uF (kB a n) (kB b m))) : List D) = (dI .i64 o)) ∧ (((qK (kB a n) (kB b m)) : Nat) = k)) zk ⟨(by exact congrArg _ hz1.symm), zo⟩
theorem pX (p q u w : Int)  : Fun 157 [.agg [iC p, iC q], .c (.ptr 0 0)] (kF [(0, some (95, .ds [iD u, iD w]))]) 1 (uW (D.lit (.bool (decide (p ≤ u ∧ w ≤ q))))) (kF [(0, some (95, .ds [iD u, iD w]))]) 1 := by
 refine Fun.mk (n := 16) Tryz.func157 rfl rfl (ka4 rfl) ?_
 intro cx hcx
 refine kH [.no, .no] True [(1, rV 0 0), (2, rV 1 0)] [(0, some (95, .ds [iD u, iD w])), (1, some (95, .ds [iD p, iD q]))] 2 trivial ?_
 by_cases hx1 : (p ≤ u)
 ·by_cases hx2 : (w ≤ q)
  ·refine kH (qE 4 (.b true :: qE 5 [.b true, .no, .no])) (((p ≤ u)) ∧ ((w ≤ q))) [(3, bV true)] [(0, some (95, .ds [iD u, iD w]))] 2 ⟨zo, zo⟩ ?_
   refine AW.ret ?_
   exact kA (.inr rfl) [] (P := ((decide (p ≤ u ∧ w ≤ q)) = true) ∧ (kJ [iD u, iD w])) zk ⟨(by exact decide_eq_true zo), rfl⟩
  ·refine kH (qE 4 (.b true :: qE 5 [.b false, .no, .no])) (((p ≤ u)) ∧ (¬ (w ≤ q))) [(3, bV false)] [(0, some (95, .ds [iD u, iD w]))] 2 ⟨zo, zo⟩ ?_
   refine AW.ret ?_
   exact kA (.inr rfl) [] (P := ((decide (p ≤ u ∧ w ≤ q)) = false) ∧ (kJ [iD u, iD w])) zk ⟨(by exact decide_eq_false zo), rfl⟩
 ·refine kH (qE 4 [.b false, .no, .no, .no]) (¬ (p ≤ u)) [(3, bV false)] [(0, some (95, .ds [iD u, iD w]))] 2 zo ?_
  refine AW.ret ?_
  exact kA (.inr rfl) [] (P := ((decide (p ≤ u ∧ w ≤ q)) = false) ∧ (kJ [iD u, iD w])) zk ⟨(by exact decide_eq_false zo), rfl⟩
theorem lI (b : List Int) (m : Nat) (u w : Int) (hb : ka0 b = m * 2) (h2 : m ≤ 1000000) : Fun 169 [.c (.d (D.sl (dI .i64 b) m)), .c (.fn 157 [(0, 0)])] (kF [(0, some (95, .ds [iD u, iD w]))]) 1 (iV (l5 b u w m)) (kF [(0, some (95, .ds [iD u, iD w]))]) 1 := by
 refine Fun.mk (n := 19) Tryz.func169 rfl rfl (ka4 rfl) ?_
 intro cx hcx
 refine kH [.no] True [(0, sV .i64 b m), (1, .e (.c (.fn 157 [(0, 0)])))] [(0, some (95, .ds [iD u, iD w]))] 1 trivial ?_
 refine AW.seq ?_
 refine kS [.no, .no, .no] True [(0, sV .i64 b m), (1, .e (.c (.fn 157 [(0, 0)]))), (7, uV m), (8, iV 0)] trivial ?_
 refine AW.block ?_
 refine k8 1 hcx (fun (x : {x : Nat // match x with | k => (k ≤ m) ∧ (l5 b u w k = -1)}) => match x with | ⟨k, _⟩ => (⟨[(0, sV .i64 b m), (1, .e (.c (.fn 157 [(0, 0)]))), (7, uV m), (8, uV k)], [(0, some (95, .ds [iD u, iD w]))], 1⟩ : ES)) (fun x => match x with | ⟨k, _⟩ => m - k) ⟨(0 : Nat), ⟨zo, rfl⟩⟩ [] (P := (kJ (dI .i64 b)) ∧ (kG m) ∧ (kM (m : Int)) ∧ (kM 0) ∧ (kJ [iD u, iD w])) zk ⟨rfl, rfl, rfl, rfl, rfl⟩ ?_
 rintro ⟨k, hinv0⟩
 obtain ⟨hk, hi⟩ : (k ≤ m) ∧ (l5 b u w k = -1) := hinv0
 refine qW (l := [(0, sV .i64 b m), (1, .e (.c (.fn 157 [(0, 0)]))), (7, uV m), (8, uV k)]) (g := [(0, some (95, .ds [iD u, iD w]))]) (nx := 1) rfl rfl rfl ?_
 by_cases hx1 : (((k : Nat) : Int) < ((m : Nat) : Int))
 ·refine kH [.b true] (((k : Int) < (m : Int))) [(0, sV .i64 b m), (1, .e (.c (.fn 157 [(0, 0)]))), (7, uV m), (8, uV k), (9, bV true)] [(0, some (95, .ds [iD u, iD w]))] 1 zo ?_
  refine AW.seq ?_
  refine vL ?_
  refine AW.seq ?_
  refine AW.block ?_
  refine kS [.no, .no] True [(0, sV .i64 b m), (1, .e (.c (.fn 157 [(0, 0)]))), (5, uV k), (7, uV m), (8, uV k)] trivial ?_
  rcases ka9 (decide ((ka1 b (k * 2) 0) ≤ u ∧ w ≤ (ka1 b ((k * 2) + 1) 0))) with hx2 | hx2
  ·have hx3 : (((ka1 b (k * 2) 0) ≤ u) ∧ (w ≤ (ka1 b ((k * 2) + 1) 0))) := of_decide_eq_true hx2
   refine kS [.no, .no, .no, .n k, .ds [iD (ka1 b (k * 2) 0), iD (ka1 b ((k * 2) + 1) 0)], .call [0] (bV true) [(0, some (95, .ds [iD u, iD w]))] 1 [] none] ((kM (k : Int)) ∧ (k < m) ∧ (ka5 2 (ka3 (k * 2) (dI .i64 b)) = [iD (ka1 b (k * 2) 0), iD (ka1 b ((k * 2) + 1) 0)]) ∧ (([iD (ka1 b (k * 2) 0), iD (ka1 b ((k * 2) + 1) 0)] : List D).length = 2) ∧ (Fun 157 [.agg [iC (ka1 b (k * 2) 0), iC (ka1 b ((k * 2) + 1) 0)], .c (.ptr 0 0)] (kF [(0, some (95, .ds [iD u, iD w]))]) 1 (bV true) (kF [(0, some (95, .ds [iD u, iD w]))]) 1)) [(0, sV .i64 b m), (1, .e (.c (.fn 157 [(0, 0)]))), (5, uV k), (7, uV m), (8, uV k), (16, bV true)] ⟨rfl, zo, (bP .i64 b (k * 2) 2 zo), rfl, (by have h0 := (pX (ka1 b (k * 2) 0) (ka1 b ((k * 2) + 1) 0) u w); rw [hx2] at h0; exact h0)⟩ ?_
   refine zt ?_
   refine kS [.no, .no] True [(4, uV k)] trivial ?_
   refine AW.ret ?_
   exact kA (.inr rfl) [] (P := (((l5 b u w m) : Int) = (k : Int)) ∧ (kJ [iD u, iD w])) zk ⟨(by exact k13 hi zo m zo), rfl⟩
  ·have hx4 : ¬ (((ka1 b (k * 2) 0) ≤ u) ∧ (w ≤ (ka1 b ((k * 2) + 1) 0))) := of_decide_eq_false hx2
   refine kS [.no, .no, .no, .n k, .ds [iD (ka1 b (k * 2) 0), iD (ka1 b ((k * 2) + 1) 0)], .call [0] (bV false) [(0, some (95, .ds [iD u, iD w]))] 1 [] none] ((kM (k : Int)) ∧ (k < m) ∧ (ka5 2 (ka3 (k * 2) (dI .i64 b)) = [iD (ka1 b (k * 2) 0), iD (ka1 b ((k * 2) + 1) 0)]) ∧ (([iD (ka1 b (k * 2) 0), iD (ka1 b ((k * 2) + 1) 0)] : List D).length = 2) ∧ (Fun 157 [.agg [iC (ka1 b (k * 2) 0), iC (ka1 b ((k * 2) + 1) 0)], .c (.ptr 0 0)] (kF [(0, some (95, .ds [iD u, iD w]))]) 1 (bV false) (kF [(0, some (95, .ds [iD u, iD w]))]) 1)) [(0, sV .i64 b m), (1, .e (.c (.fn 157 [(0, 0)]))), (5, uV k), (7, uV m), (8, uV k), (16, bV false)] ⟨rfl, zo, (bP .i64 b (k * 2) 2 zo), rfl, (by have h0 := (pX (ka1 b (k * 2) 0) (ka1 b ((k * 2) + 1) 0) u w); rw [hx2] at h0; exact h0)⟩ ?_
   refine uO ?_
   refine yA [.w, .no] ((-9223372036854775808) ≤ ((k : Int) + 1) ∧ ((k : Int) + 1) ≤ 9223372036854775807) [(0, sV .i64 b m), (1, .e (.c (.fn 157 [(0, 0)]))), (7, uV m), (8, iV (↑k + 1))] ⟨by omega, by omega⟩ ?_
   exact kW ⟨((k + 1) : Nat), ⟨zo, (k2z hi zo)⟩⟩ [] (P := (kJ (dI .i64 b)) ∧ (kG m) ∧ (kM (m : Int)) ∧ (((((k + 1) : Nat) : Int) : Int) = ((k : Int) + 1)) ∧ (kJ [iD u, iD w])) zk ⟨rfl, rfl, rfl, (by rfl), rfl⟩ (show m - (k + 1) < m - k from zo)
 ·refine kH [.b false] (¬ ((k : Int) < (m : Int))) [(0, sV .i64 b m), (1, .e (.c (.fn 157 [(0, 0)]))), (7, uV m), (8, uV k), (9, bV false)] [(0, some (95, .ds [iD u, iD w]))] 1 zo ?_
  refine AW.seq ?_
  refine zf ?_
  refine AW.exit ?_
  refine kH [.no] True [(4, iV (-1))] [(0, some (95, .ds [iD u, iD w]))] 1 trivial ?_
  refine AW.ret ?_
  exact kA (.inr rfl) [] (P := (((l5 b u w m) : Int) = (-1)) ∧ (kJ [iD u, iD w])) zk ⟨(by (rw [show m = k by omega]; exact hi)), rfl⟩
theorem nR (b : List Int) (m : Nat) (u w : Int) (hb : ka0 b = m * 2) (h2 : m ≤ 1000000) : Fun 158 [.c (.d (D.sl (dI .i64 b) m)), .c (.fn 157 [(0, 0)])] (kF [(0, some (95, .ds [iD u, iD w]))]) 1 (uW (D.lit (.bool (zP b u w)))) (kF [(0, some (95, .ds [iD u, iD w]))]) 1 := by
 refine Fun.mk (n := 9) Tryz.func158 rfl rfl (ka4 rfl) ?_
 intro cx hcx
 refine kH [.no] True [(0, sV .i64 b m), (1, .e (.c (.fn 157 [(0, 0)])))] [(0, some (95, .ds [iD u, iD w]))] 1 trivial ?_
 by_cases hx1 : ((0 : Int) ≤ (l5 b u w m))
 ·refine kS [.no, .no, .call [0] (iV (l5 b u w m)) [(0, some (95, .ds [iD u, iD w]))] 1 [] none, .b true, .no] ((_) ∧ (((0 : Int) ≤ (l5 b u w m)))) [(4, bV true)] ⟨(lI b m u w zo zo), zo⟩ ?_
  refine AW.ret ?_
  exact kA (.inr rfl) [] (P := ((zP b u w) = true) ∧ (kJ [iD u, iD w])) zk ⟨(by exact v62 hb zo), rfl⟩
 ·refine kS [.no, .no, .call [0] (iV (l5 b u w m)) [(0, some (95, .ds [iD u, iD w]))] 1 [] none, .b false, .no] ((_) ∧ (¬ ((0 : Int) ≤ (l5 b u w m)))) [(4, bV false)] ⟨(lI b m u w zo zo), zo⟩ ?_
  refine AW.ret ?_
  exact kA (.inr rfl) [] (P := ((zP b u w) = false) ∧ (kJ [iD u, iD w])) zk ⟨(by exact v63 hb zo), rfl⟩
abbrev gJ (a : List Int) (n : Nat) (k : Nat) : BC := .ds [iD (ka1 (kB a n) (k * 2) 0), iD (ka1 (kB a n) ((k * 2) + 1) 0)]
theorem dR (a b : List Int) (n m : Nat) (ha : ka0 a = n * 2) (hb : ka0 b = m * 2) (h3 : n ≤ 9223372036854775807) (h4 : m ≤ 9223372036854775807) : Fun 131 [.agg [.d (D.sl (dI .i64 a) n)], .agg [.d (D.sl (dI .i64 b) m)]] (kF []) 0 (uW (D.lit (.bool (xF (kB a n) (kB b m))))) (kF []) 0 := by
 refine Fun.mk (n := 24) Tryz.func131 rfl rfl (ka4 rfl) ?_
 intro cx hcx
 refine kH [.no, .no, .no] True [(2, rV 0 0), (3, rV 1 0)] [(0, some (60, .ds [dl a n])), (1, some (60, .ds [dl b m]))] 2 trivial ?_
 have hx1 : ((ka0 (kB b m)) = ((kZ b m) * 2)) := qR (zo)
 have hx2 : (((kZ b m) ≤ 64) ∧ ((kZ b m) ≤ m)) := j8
 refine kH [.no, .call [] (sV .i64 (kB b m) (kZ b m)) [] 0 [] none, .no] _ [(2, rV 0 0), (5, sV .i64 (kB b m) (kZ b m))] [(0, some (60, .ds [dl a n]))] 2 (fY b m zo zo) ?_
 refine AW.seq ?_
 have hx3 : ((ka0 (kB a n)) = ((kZ a n) * 2)) := qR (zo)
 have hx4 : (((kZ a n) ≤ 64) ∧ ((kZ a n) ≤ n)) := j8
 refine kH [.no, .call [] (sV .i64 (kB a n) (kZ a n)) [] 0 [] none, .no, .no] _ [(5, sV .i64 (kB b m) (kZ b m)), (12, sV .i64 (kB a n) (kZ a n)), (13, uV (kZ a n)), (14, iV 0)] [] 2 (fY a n zo zo) ?_
 refine AW.block ?_
 refine k8 0 hcx (fun (x : {x : Nat // match x with | k => (k ≤ kZ a n) ∧ (∀ j, j < k → zP (kB b m) (ka1 (kB a n) (j * 2) 0) (ka1 (kB a n) (j * 2 + 1) 0) = true)}) => match x with | ⟨k, _⟩ => (⟨[(5, sV .i64 (kB b m) (kZ b m)), (12, sV .i64 (kB a n) (kZ a n)), (13, uV (kZ a n)), (14, uV k)], [], 2⟩ : ES)) (fun x => match x with | ⟨k, _⟩ => kZ a n - k) ⟨(0 : Nat), ⟨zo, (fun j hj => absurd hj (Nat.not_lt_zero j))⟩⟩ [] (P := (kJ (dI .i64 (kB b m))) ∧ (kG (kZ b m)) ∧ (kJ (dI .i64 (kB a n))) ∧ (kG (kZ a n)) ∧ (kM (kZ a n : Int)) ∧ (kM 0)) zk ⟨rfl, rfl, rfl, rfl, rfl, rfl⟩ ?_
 rintro ⟨k, hinv0⟩
 obtain ⟨hk, hq⟩ : (k ≤ kZ a n) ∧ (∀ j, j < k → zP (kB b m) (ka1 (kB a n) (j * 2) 0) (ka1 (kB a n) (j * 2 + 1) 0) = true) := hinv0
 refine qW (l := [(5, sV .i64 (kB b m) (kZ b m)), (12, sV .i64 (kB a n) (kZ a n)), (13, uV (kZ a n)), (14, uV k)]) (g := []) (nx := 2) rfl rfl rfl ?_
 by_cases hx5 : (((k : Nat) : Int) < (((kZ a n) : Nat) : Int))
 ·refine kH [.b true] (((k : Int) < (kZ a n : Int))) [(5, sV .i64 (kB b m) (kZ b m)), (12, sV .i64 (kB a n) (kZ a n)), (13, uV (kZ a n)), (14, uV k), (15, bV true)] [] 2 zo ?_
  refine AW.seq ?_
  refine vL ?_
  refine AW.seq ?_
  refine AW.block ?_
  refine kH [.n k, .ds [iD (ka1 (kB a n) (k * 2) 0), iD (ka1 (kB a n) ((k * 2) + 1) 0)], .no, .no] ((kM (k : Int)) ∧ (k < (kZ a n)) ∧ (ka5 2 (ka3 (k * 2) (dI .i64 (kB a n))) = [iD (ka1 (kB a n) (k * 2) 0), iD (ka1 (kB a n) ((k * 2) + 1) 0)]) ∧ (([iD (ka1 (kB a n) (k * 2) 0), iD (ka1 (kB a n) ((k * 2) + 1) 0)] : List D).length = 2)) [(5, sV .i64 (kB b m) (kZ b m)), (7, rV 2 0), (12, sV .i64 (kB a n) (kZ a n)), (13, uV (kZ a n)), (14, uV k)] [(2, some (95, (gJ a n k)))] 3 ⟨rfl, zo, (bP .i64 (kB a n) (k * 2) 2 zo), rfl⟩ ?_
  refine kS [.no, .no] True [(5, sV .i64 (kB b m) (kZ b m)), (8, .e (.c (.fn 157 [(2, 0)]))), (12, sV .i64 (kB a n) (kZ a n)), (13, uV (kZ a n)), (14, uV k)] trivial ?_
  rcases ka9 (zP (kB b m) (ka1 (kB a n) (k * 2) 0) (ka1 (kB a n) ((k * 2) + 1) 0)) with hx6 | hx6
  ·refine kH [.no, .no, .call [2] (bV true) [(0, some (95, (gJ a n k)))] 1 [] none, .no] (Fun 158 [.c (.d (dl (kB b m) (kZ b m))), .c (.fn 157 [(0, 0)])] (kF [(0, some (95, (gJ a n k)))]) 1 (bV true) (kF [(0, some (95, (gJ a n k)))]) 1) [(5, sV .i64 (kB b m) (kZ b m)), (12, sV .i64 (kB a n) (kZ a n)), (13, uV (kZ a n)), (14, uV k), (22, bV false)] [] 3 (by have h0 := (nR (kB b m) (kZ b m) (ka1 (kB a n) (k * 2) 0) (ka1 (kB a n) ((k * 2) + 1) 0) zo zo); rw [hx6] at h0; exact h0) ?_
   refine uO ?_
   refine yA [.w, .no] ((-9223372036854775808) ≤ ((k : Int) + 1) ∧ ((k : Int) + 1) ≤ 9223372036854775807) [(5, sV .i64 (kB b m) (kZ b m)), (12, sV .i64 (kB a n) (kZ a n)), (13, uV (kZ a n)), (14, iV (↑k + 1))] ⟨by omega, by omega⟩ ?_
   exact kW ⟨((k + 1) : Nat), ⟨zo, (fun j hj => (Nat.lt_succ_iff_lt_or_eq.1 hj).elim (hq j) (fun e9 => by subst e9; assumption))⟩⟩ [] (P := (kJ (dI .i64 (kB b m))) ∧ (kG (kZ b m)) ∧ (kJ (dI .i64 (kB a n))) ∧ (kG (kZ a n)) ∧ (kM (kZ a n : Int)) ∧ (((((k + 1) : Nat) : Int) : Int) = ((k : Int) + 1))) zk ⟨rfl, rfl, rfl, rfl, rfl, (by rfl)⟩ (show kZ a n - (k + 1) < kZ a n - k from zo)
  ·refine kH [.no, .no, .call [2] (bV false) [(0, some (95, (gJ a n k)))] 1 [] none, .no] (Fun 158 [.c (.d (dl (kB b m) (kZ b m))), .c (.fn 157 [(0, 0)])] (kF [(0, some (95, (gJ a n k)))]) 1 (bV false) (kF [(0, some (95, (gJ a n k)))]) 1) [(5, sV .i64 (kB b m) (kZ b m)), (12, sV .i64 (kB a n) (kZ a n)), (13, uV (kZ a n)), (14, uV k), (22, bV true)] [] 3 (by have h0 := (nR (kB b m) (kZ b m) (ka1 (kB a n) (k * 2) 0) (ka1 (kB a n) ((k * 2) + 1) 0) zo zo); rw [hx6] at h0; exact h0) ?_
   refine zt ?_
   refine kS [.no] True [(4, bV false)] trivial ?_
   refine AW.ret ?_
   exact kA (.inr rfl) [] (P := ((xF (kB a n) (kB b m)) = false)) zk (by exact v5q (k := k) (qR ha) zo (by assumption))
 ·refine kH [.b false] (¬ ((k : Int) < (kZ a n : Int))) [(5, sV .i64 (kB b m) (kZ b m)), (12, sV .i64 (kB a n) (kZ a n)), (13, uV (kZ a n)), (14, uV k), (15, bV false)] [] 2 zo ?_
  refine AW.seq ?_
  refine zf ?_
  refine AW.exit ?_
  refine kH [.no] True [(4, bV true)] [] 2 trivial ?_
  refine AW.ret ?_
  exact kA (.inr rfl) [] (P := ((xF (kB a n) (kB b m)) = true)) zk (by exact v5p (qR ha) (fun j hj => hq j zo))
theorem tO (a b : Int) (ha : -9223372036854775808 ≤ a ∧ a ≤ 9223372036854775807) (hb : -9223372036854775808 ≤ b ∧ b ≤ 9223372036854775807) : Fun 148 [iE a, iE b] (kF []) 0 (uW (D.lit (.int .u64 (aL a b)))) (kF []) 0 := by
 refine Fun.mk (n := 18) Tryz.func148 rfl rfl (ka4 rfl) ?_
 intro cx hcx
 refine kH [.no] True [(0, iV a), (1, iV b)] [] 0 trivial ?_
 refine AW.seq ?_
 by_cases hx1 : (b < a)
 ·refine kS [.no, .no, .b true] ((b < a)) [(0, iV a), (1, iV b), (7, bV true)] zo ?_
  refine zt ?_
  refine kS [.no, .i (a % 18446744073709551616), .no, .i (b % 18446744073709551616), .i (a - b), .no] ((IntKind.u64.wrap (a : Int) = (a % 18446744073709551616)) ∧ (IntKind.u64.wrap (b : Int) = (b % 18446744073709551616)) ∧ (IntKind.u64.wrap (((a % 18446744073709551616) - (b % 18446744073709551616)) : Int) = (a - b))) [(4, uW (D.lit (.int .u64 (a - b))))] ⟨(dF _), (dF _), (by rw [dF]; omega)⟩ ?_
  refine AW.ret ?_
  exact kA (.inr rfl) [] (P := (((aL a b) : Int) = (a - b))) zk (by unfold aL; split <;> omega)
 ·refine kS [.no, .no, .b false] (¬ (b < a)) [(0, iV a), (1, iV b), (7, bV false)] zo ?_
  refine uO ?_
  refine kS [.no, .i (b % 18446744073709551616), .no, .i (a % 18446744073709551616), .i (b - a), .no] ((IntKind.u64.wrap (b : Int) = (b % 18446744073709551616)) ∧ (IntKind.u64.wrap (a : Int) = (a % 18446744073709551616)) ∧ (IntKind.u64.wrap (((b % 18446744073709551616) - (a % 18446744073709551616)) : Int) = (b - a))) [(4, uW (D.lit (.int .u64 (b - a))))] ⟨(dF _), (dF _), (by rw [dF]; omega)⟩ ?_
  refine AW.ret ?_
  exact kA (.inr rfl) [] (P := (((aL a b) : Int) = (b - a))) zk (by unfold aL; split <;> omega)
theorem u0x (l : List Int) (n : Nat) (z : Int) (hl : ka0 l = n * 2) (hb : n ≤ 9223372036854775807) (hz : -9223372036854775808 ≤ z ∧ z ≤ 9223372036854775807) : Fun 114 [.agg [.d (D.sl (dI .i64 l) n)], iE z] (kF []) 0 (.tup [iE (vA z (kB l n)), .c (.d (D.lit (.bool (nrF z (kB l n)))))]) (kF []) 0 := by
 refine Fun.mk (n := 40) Tryz.func114 rfl rfl (ka4 rfl) ?_
 intro cx hcx
 refine kH [.no, .no, .no] True [(1, iV z), (2, rV 0 0)] [(0, some (60, .ds [dl l n]))] 1 trivial ?_
 refine kS [.no, .no] True [(1, iV z), (2, rV 0 0), (6, iV 0), (7, bV false)] trivial ?_
 refine AW.seq ?_
 have hx1 : ((ka0 (kB l n)) = ((kZ l n) * 2)) := qR (zo)
 have hx2 : (((kZ l n) ≤ 64) ∧ ((kZ l n) ≤ n)) := j8
 refine kH [.no, .call [] (sV .i64 (kB l n) (kZ l n)) [] 0 [] none, .no, .no] _ [(1, iV z), (6, iV 0), (7, bV false), (12, sV .i64 (kB l n) (kZ l n)), (13, uV (kZ l n)), (14, iV 0)] [] 1 (fY l n zo zo) ?_
 refine AW.block ?_
 refine k8 0 hcx (fun (x : {x : Nat × Int × Bool // match x with | (i, y, f) => (i ≤ kZ l n ∧ -9223372036854775808 ≤ y ∧ y ≤ 9223372036854775807) ∧ (NR z (kB l n) i y f)}) => match x with | ⟨(i, y, f), _⟩ => (⟨[(1, iV z), (6, iV y), (7, uW (D.lit (.bool (f)))), (12, sV .i64 (kB l n) (kZ l n)), (13, uV (kZ l n)), (14, uV i)], [], 1⟩ : ES)) (fun x => match x with | ⟨(i, y, f), _⟩ => kZ l n - i) ⟨((0 : Nat), (0 : Int), (false : Bool)), ⟨zo, (NR.zero _ _)⟩⟩ [] (P := (kM z) ∧ (kM 0) ∧ ((false) = false) ∧ (kJ (dI .i64 (kB l n))) ∧ (kG (kZ l n)) ∧ (kM (kZ l n : Int)) ∧ (kM 0)) zk ⟨rfl, rfl, (by rfl), rfl, rfl, rfl, rfl⟩ ?_
 rintro ⟨⟨i, y, f⟩, hinv0⟩
 obtain ⟨hi, hN⟩ : (i ≤ kZ l n ∧ -9223372036854775808 ≤ y ∧ y ≤ 9223372036854775807) ∧ (NR z (kB l n) i y f) := hinv0
 refine qW (l := [(1, iV z), (6, iV y), (7, uW (D.lit (.bool (f)))), (12, sV .i64 (kB l n) (kZ l n)), (13, uV (kZ l n)), (14, uV i)]) (g := []) (nx := 1) rfl rfl rfl ?_
 by_cases hx3 : (((i : Nat) : Int) < (((kZ l n) : Nat) : Int))
 ·have hx4 : 0 ≤ ka1 (kB l n) (i * 2) 0 ∧ ka1 (kB l n) (i * 2) 0 ≤ ka1 (kB l n) (i * 2 + 1) 0 ∧ ka1 (kB l n) (i * 2 + 1) 0 ≤ 2147483647 := v07 hl i zo
  refine kH [.b true] (((i : Int) < (kZ l n : Int))) [(1, iV z), (6, iV y), (7, uW (D.lit (.bool (f)))), (12, sV .i64 (kB l n) (kZ l n)), (13, uV (kZ l n)), (14, uV i), (15, bV true)] [] 1 zo ?_
  refine AW.seq ?_
  refine vL ?_
  refine AW.seq ?_
  refine AW.block ?_
  refine kH [.n i, .ds [iD (ka1 (kB l n) (i * 2) 0), iD (ka1 (kB l n) ((i * 2) + 1) 0)], .no, .no] ((kM (i : Int)) ∧ (i < (kZ l n)) ∧ (ka5 2 (ka3 (i * 2) (dI .i64 (kB l n))) = [iD (ka1 (kB l n) (i * 2) 0), iD (ka1 (kB l n) ((i * 2) + 1) 0)]) ∧ (([iD (ka1 (kB l n) (i * 2) 0), iD (ka1 (kB l n) ((i * 2) + 1) 0)] : List D).length = 2)) [(1, iV z), (6, iV y), (7, uW (D.lit (.bool (f)))), (9, rV 1 0), (12, sV .i64 (kB l n) (kZ l n)), (13, uV (kZ l n)), (14, uV i)] [(1, some (95, .ds [iD (ka1 (kB l n) (i * 2) 0), iD (ka1 (kB l n) ((i * 2) + 1) 0)]))] 2 ⟨rfl, zo, (bP .i64 (kB l n) (i * 2) 2 zo), rfl⟩ ?_
  refine kH (qE 8 []) True [(1, iV z), (6, iV y), (7, uW (D.lit (.bool (f)))), (10, iV (min (max z (ka1 (kB l n) (i * 2) 0)) (ka1 (kB l n) ((i * 2) + 1) 0))), (12, sV .i64 (kB l n) (kZ l n)), (13, uV (kZ l n)), (14, uV i)] [] 2 trivial ?_
  rcases ka9 (f) with hx5 | hx5
  ·subst hx5
   by_cases hx8 : ((aL (min (max z (ka1 (kB l n) (i * 2) 0)) (ka1 (kB l n) ((i * 2) + 1) 0)) z) < (aL y z))
   ·have hx9 : ((0 : Int) ≤ (aL (min (max z (ka1 (kB l n) (i * 2) 0)) (ka1 (kB l n) ((i * 2) + 1) 0)) z)) := s5
    have hx10 : ((0 : Int) ≤ (aL y z)) := s5
    refine kH (qE 5 [.call [] (uW (D.lit (.int .u64 (aL (min (max z (ka1 (kB l n) (i * 2) 0)) (ka1 (kB l n) ((i * 2) + 1) 0)) z)))) [] 0 [] none, .no, .no, .call [] (uW (D.lit (.int .u64 (aL y z)))) [] 0 [] none, .b true, .no]) ((_) ∧ (_) ∧ (((aL (min (max z (ka1 (kB l n) (i * 2) 0)) (ka1 (kB l n) ((i * 2) + 1) 0)) z) < (aL y z)))) [(1, iV z), (6, iV y), (7, bV true), (10, iV (min (max z (ka1 (kB l n) (i * 2) 0)) (ka1 (kB l n) ((i * 2) + 1) 0))), (12, sV .i64 (kB l n) (kZ l n)), (13, uV (kZ l n)), (14, uV i), (35, bV true)] [] 2 ⟨(tO (min (max z (ka1 (kB l n) (i * 2) 0)) (ka1 (kB l n) ((i * 2) + 1) 0)) z zo zo), (tO y z zo zo), zo⟩ ?_
    refine zt ?_
    refine yA [.no, .no, .no] True [(1, iV z), (6, iV (min (max z (ka1 (kB l n) (i * 2) 0)) (ka1 (kB l n) ((i * 2) + 1) 0))), (7, bV true), (12, sV .i64 (kB l n) (kZ l n)), (13, uV (kZ l n)), (14, uV i)] trivial ?_
    refine yA [.w, .no] ((-9223372036854775808) ≤ ((i : Int) + 1) ∧ ((i : Int) + 1) ≤ 9223372036854775807) [(1, iV z), (6, iV (min (max z (ka1 (kB l n) (i * 2) 0)) (ka1 (kB l n) ((i * 2) + 1) 0))), (7, bV true), (12, sV .i64 (kB l n) (kZ l n)), (13, uV (kZ l n)), (14, iV (↑i + 1))] ⟨by omega, by omega⟩ ?_
    exact kW ⟨(((i + 1) : Nat), ((min (max z (ka1 (kB l n) (i * 2) 0)) (ka1 (kB l n) ((i * 2) + 1) 0)) : Int), (true : Bool)), ⟨zo, (by first | exact hN.first (qR hl) zo (by show _ = max _ (min _ z); (simp only; omega)) | exact hN.near (qR hl) zo (by show _ = max _ (min _ z); (simp only; omega)) zo | exact hN.far (qR hl) zo (by assumption) (by show _ = max _ (min _ z); first | (simp only; done) | (simp only; omega) | omega))⟩⟩ [] (P := (kM z) ∧ (kM (min (max z (ka1 (kB l n) (i * 2) 0)) (ka1 (kB l n) ((i * 2) + 1) 0))) ∧ ((true) = true) ∧ (kJ (dI .i64 (kB l n))) ∧ (kG (kZ l n)) ∧ (kM (kZ l n : Int)) ∧ (((((i + 1) : Nat) : Int) : Int) = ((i : Int) + 1))) zk ⟨rfl, rfl, (by rfl), rfl, rfl, rfl, (by rfl)⟩ (show kZ l n - (i + 1) < kZ l n - i from zo)
   ·have hx11 : ((0 : Int) ≤ (aL (min (max z (ka1 (kB l n) (i * 2) 0)) (ka1 (kB l n) ((i * 2) + 1) 0)) z)) := s5
    have hx12 : ((0 : Int) ≤ (aL y z)) := s5
    refine kH (qE 5 [.call [] (uW (D.lit (.int .u64 (aL (min (max z (ka1 (kB l n) (i * 2) 0)) (ka1 (kB l n) ((i * 2) + 1) 0)) z)))) [] 0 [] none, .no, .no, .call [] (uW (D.lit (.int .u64 (aL y z)))) [] 0 [] none, .b false, .no]) ((_) ∧ (_) ∧ (¬ ((aL (min (max z (ka1 (kB l n) (i * 2) 0)) (ka1 (kB l n) ((i * 2) + 1) 0)) z) < (aL y z)))) [(1, iV z), (6, iV y), (7, bV true), (10, iV (min (max z (ka1 (kB l n) (i * 2) 0)) (ka1 (kB l n) ((i * 2) + 1) 0))), (12, sV .i64 (kB l n) (kZ l n)), (13, uV (kZ l n)), (14, uV i), (35, bV false)] [] 2 ⟨(tO (min (max z (ka1 (kB l n) (i * 2) 0)) (ka1 (kB l n) ((i * 2) + 1) 0)) z zo zo), (tO y z zo zo), zo⟩ ?_
    refine uO ?_
    refine yA [.w, .no] ((-9223372036854775808) ≤ ((i : Int) + 1) ∧ ((i : Int) + 1) ≤ 9223372036854775807) [(1, iV z), (6, iV y), (7, bV true), (12, sV .i64 (kB l n) (kZ l n)), (13, uV (kZ l n)), (14, iV (↑i + 1))] ⟨by omega, by omega⟩ ?_
    exact kW ⟨(((i + 1) : Nat), (y : Int), (true : Bool)), ⟨zo, (by first | exact hN.first (qR hl) zo (by show _ = max _ (min _ z); first | (simp only; done) | (simp only; omega) | omega) | exact hN.near (qR hl) zo (by show _ = max _ (min _ z); first | (simp only; done) | (simp only; omega) | omega) zo | exact hN.far (qR hl) zo (by assumption) (by show _ = max _ (min _ z); (simp only; omega)))⟩⟩ [] (P := (kM z) ∧ (kM y) ∧ ((true) = true) ∧ (kJ (dI .i64 (kB l n))) ∧ (kG (kZ l n)) ∧ (kM (kZ l n : Int)) ∧ (((((i + 1) : Nat) : Int) : Int) = ((i : Int) + 1))) zk ⟨rfl, rfl, (by rfl), rfl, rfl, rfl, (by rfl)⟩ (show kZ l n - (i + 1) < kZ l n - i from zo)
  ·subst hx5
   refine kH (qE 4 []) True [(1, iV z), (6, iV y), (7, bV false), (10, iV (min (max z (ka1 (kB l n) (i * 2) 0)) (ka1 (kB l n) ((i * 2) + 1) 0))), (12, sV .i64 (kB l n) (kZ l n)), (13, uV (kZ l n)), (14, uV i), (35, bV true)] [] 2 trivial ?_
   refine zt ?_
   refine yA [.no, .no, .no] True [(1, iV z), (6, iV (min (max z (ka1 (kB l n) (i * 2) 0)) (ka1 (kB l n) ((i * 2) + 1) 0))), (7, bV true), (12, sV .i64 (kB l n) (kZ l n)), (13, uV (kZ l n)), (14, uV i)] trivial ?_
   refine yA [.w, .no] ((-9223372036854775808) ≤ ((i : Int) + 1) ∧ ((i : Int) + 1) ≤ 9223372036854775807) [(1, iV z), (6, iV (min (max z (ka1 (kB l n) (i * 2) 0)) (ka1 (kB l n) ((i * 2) + 1) 0))), (7, bV true), (12, sV .i64 (kB l n) (kZ l n)), (13, uV (kZ l n)), (14, iV (↑i + 1))] ⟨by omega, by omega⟩ ?_
   exact kW ⟨(((i + 1) : Nat), ((min (max z (ka1 (kB l n) (i * 2) 0)) (ka1 (kB l n) ((i * 2) + 1) 0)) : Int), (true : Bool)), ⟨zo, (by first | exact hN.first (qR hl) zo (by show _ = max _ (min _ z); (simp only; omega)) | exact hN.near (qR hl) zo (by show _ = max _ (min _ z); first | (simp only; done) | (simp only; omega) | omega) zo | exact hN.far (qR hl) zo (by assumption) (by show _ = max _ (min _ z); first | (simp only; done) | (simp only; omega) | omega))⟩⟩ [] (P := (kM z) ∧ (kM (min (max z (ka1 (kB l n) (i * 2) 0)) (ka1 (kB l n) ((i * 2) + 1) 0))) ∧ ((true) = true) ∧ (kJ (dI .i64 (kB l n))) ∧ (kG (kZ l n)) ∧ (kM (kZ l n : Int)) ∧ (((((i + 1) : Nat) : Int) : Int) = ((i : Int) + 1))) zk ⟨rfl, rfl, (by rfl), rfl, rfl, rfl, (by rfl)⟩ (show kZ l n - (i + 1) < kZ l n - i from zo)
 ·refine kH [.b false] (¬ ((i : Int) < (kZ l n : Int))) [(1, iV z), (6, iV y), (7, uW (D.lit (.bool (f)))), (12, sV .i64 (kB l n) (kZ l n)), (13, uV (kZ l n)), (14, uV i), (15, bV false)] [] 1 zo ?_
  refine AW.seq ?_
  refine zf ?_
  refine AW.exit ?_
  refine kH (qE 4 []) True [(4, iV y), (5, uW (D.lit (.bool (f))))] [] 1 trivial ?_
  obtain ⟨hz1, hz2⟩ := hN.fin (qR hl) zo
  refine AW.ret ?_
  exact kA (.inr rfl) [] (P := (((vA z (kB l n)) : Int) = y) ∧ ((nrF z (kB l n)) = (f))) zk ⟨zo, hz2⟩
end Go.Proofs.YtbicifcgghmhaaaGreat
