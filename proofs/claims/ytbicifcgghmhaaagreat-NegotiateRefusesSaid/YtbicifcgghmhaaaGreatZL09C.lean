/- Sets of integers: C. No statement is proved here. -/
import Derived.Test.YtbicifcgghmhaaaGreatZL09B
namespace Go.Proofs.YtbicifcgghmhaaaGreat
open Go.ChangeShapes Go.WideShapes Go.ChangeAt Go.RowKit
open Bool renaming eq_false_or_eq_true → kb3
open List renaming drop → ka3, drop_drop → kc8, drop_zero → kc9, getD → ka1, length → ka0, length_append → ka6, length_cons → ka9, length_drop → kb2, length_map → kc4, length_nil → kb1, length_replicate → kb4, length_reverse → kc1, length_set → kb9, length_take → kb0, take → ka5
open Nat renaming le_of_ble_eq_true → ka4, mul_one → kc7
set_option linter.unusedVariables false
set_option linter.unusedSimpArgs false
set_option maxHeartbeats 4000000
set_option maxRecDepth 100000
theorem v7 {p : Prop} (h : p := by first | omega | assumption | simp) : p := h
theorem cN {p : Prop} (h : p := by first | rfl | omega | assumption | (simp; done) | (simp; omega)) : p := h
theorem bZ {p : Prop} (h : p := by first | (rw [kc8]; exact yJ _ _ _ (by first | omega | (simp only [uX, qW, ka6, ka9, kb1, kb0, kb2, kb4, kb9, kc4, kc1, kc7] <;> omega) | rfl)) | (rw [kc8, Nat.add_comm]; exact yJ _ _ _ (by first | omega | (simp only [uX, qW, ka6, ka9, kb1, kb0, kb2, kb4, kb9, kc4, kc1, kc7] <;> omega) | rfl))) : p := h
theorem eM {p : Prop} (h : p := by first | omega | (simp only [uX, qW, ka6, ka9, kb1, kb0, kb2, kb4, kb9, kc4, kc1, kc7] <;> omega) | rfl) : p := h
theorem rU {p : Prop} (h : p := by simp only [dJ, aN, Nat.zero_mul, Nat.one_mul, kc9]) : p := h
theorem rW {p : Prop} (h : p := by first | assumption | (simp only [uX, ka6, ka9, kb1] <;> omega)) : p := h
theorem eL {p : Prop} (h : p := by first | omega | (show _ < _; simp; omega)) : p := h
theorem k0a {p : Prop} (h : p := by rw [kc9, List.take_of_length_le (by first | omega | (simp only [uX, qW, ka6, ka9, kb1, kb0, kb2, kb4, kb9, kc4, kc1, kc7] <;> omega))]) : p := h
theorem rT {p : Prop} (h : p := by first | omega | rfl | assumption | (simp; done) | (simp; omega)) : p := h
abbrev u5w (i : Nat) (a : List Int) (n : Nat) (j : Nat) (b : List Int) (m : Nat) : BC := .ds [iD (max (ka1 (ka3 (i * 2) (kC a n)) 0 0) (ka1 (ka3 (j * 2) (kC b m)) 0 0)), iD (min (ka1 (ka3 (i * 2) (kC a n)) 1 0) (ka1 (ka3 (j * 2) (kC b m)) 1 0))]
theorem gJ (a b : List Int) (n m : Nat) (ha : ka0 a = n * 2) (hb : ka0 b = m * 2) (h3 : n ≤ 9223372036854775807) (h4 : m ≤ 9223372036854775807) : Fun 162 [.agg [.d (D.sl (dI .i64 a) n)], .agg [.d (D.sl (dI .i64 b) m)]] (kH []) 0 (.e (.agg [.d (D.sl (dI .i64 (uR (kC a n) (kC b m))) (qT (kC a n) (kC b m)))])) (kH []) 0 := by
 refine Fun.mk (n := 69) Tryz.func162 rfl rfl (ka4 rfl) ?_
 intro cx hcx
 refine kK [.no, .no, .no] True [(2, rV 0 0), (3, rV 1 0), (4, rV 2 0)] [(0, some (60, .ds [dl a n])), (1, some (60, .ds [dl b m])), (2, some (60, .ds [qQ]))] 3 trivial ?_
 refine kT [.no] True [(2, rV 0 0), (3, rV 1 0), (4, rV 2 0), (5, nV)] trivial ?_
 have hx1 : ((ka0 (kC a n)) = ((qB a n) * 2)) := qD (zo)
 have hx2 : (((qB a n) ≤ 64) ∧ ((qB a n) ≤ n)) := lU
 have hx3 : ((ka0 (kC b m)) = ((qB b m) * 2)) := qD (zo)
 have hx4 : (((qB b m) ≤ 64) ∧ ((qB b m) ≤ m)) := lU
 refine kK [.no, .call [] (sV .i64 (kC a n) (qB a n)) [] 0 [] none, .no, .call [] (sV .i64 (kC b m) (qB b m)) [] 0 [] none, .no, .no] ((_) ∧ (_)) [(4, rV 2 0), (5, nV), (6, sV .i64 (kC a n) (qB a n)), (7, sV .i64 (kC b m) (qB b m))] [(2, some (60, .ds [qQ]))] 3 ⟨(gH a n zo zo), (gH b m zo zo)⟩ ?_
 refine AW.seq ?_
 refine AW.block ?_
 refine AW.adoptS 5 2 95 rfl ?_
 refine qH 0 hcx (fun (x : {x : Nat × Nat × Nat × List Int // match x with | (i, j, k, o) => (i ≤ qB a n ∧ j ≤ qB b m ∧ k ≤ 64) ∧ (IX (kC a n) (kC b m) i j k o) ∧ (ka0 o = k * 2)}) => match x with | ⟨(i, j, k, o), _⟩ => (⟨[(4, rV 2 0), (5, oV 4 0 k 2), (6, sV .i64 (ka3 (i * 2) (kC a n)) ((qB a n) - i)), (7, sV .i64 (ka3 (j * 2) (kC b m)) ((qB b m) - j))], [(2, some (60, .ds [qQ])), (4, some (95, .ds (dI .i64 o)))], 5⟩ : ES)) (fun x => match x with | ⟨(i, j, k, o), _⟩ => (qB a n - i) + (qB b m - j)) ⟨((0 : Nat), (0 : Nat), (0 : Nat), (([] : List Int) : List Int)), ⟨v7, (IX.zero _ _), rfl⟩⟩ [(4, 3)] (P := (kJ 0) ∧ (kJ 0) ∧ (kJ 0) ∧ (((dI .i64 (ka3 0 (kC a n))) : List D) = (dI .i64 (kC a n))) ∧ ((((qB a n) - 0) : Nat) = (qB a n)) ∧ (((dI .i64 (ka3 0 (kC b m))) : List D) = (dI .i64 (kC b m))) ∧ ((((qB b m) - 0) : Nat) = (qB b m)) ∧ (kN [qQ]) ∧ (((dI .i64 ([] : List Int)) : List D) = ([] : List D))) zk ⟨rfl, rfl, rfl, (by first | rfl | with_reducible assumption | exact dp1 (qD ha) | exact dp1 (qD hb)), cN, (by first | rfl | with_reducible assumption | exact dp1 (qD ha) | exact dp1 (qD hb)), cN, rfl, (by first | rfl | with_reducible assumption | exact dp1 (qD ha) | exact dp1 (qD hb))⟩ ?_
 rintro ⟨⟨i, j, k, o⟩, hinv0⟩
 obtain ⟨hi, hX, ho⟩ : (i ≤ qB a n ∧ j ≤ qB b m ∧ k ≤ 64) ∧ (IX (kC a n) (kC b m) i j k o) ∧ (ka0 o = k * 2) := hinv0
 refine uL (l := [(4, rV 2 0), (5, oV 4 0 k 2), (6, sV .i64 (ka3 (i * 2) (kC a n)) ((qB a n) - i)), (7, sV .i64 (ka3 (j * 2) (kC b m)) ((qB b m) - j))]) (g := [(2, some (60, .ds [qQ])), (4, some (95, .ds (dI .i64 o)))]) (nx := 5) rfl rfl rfl ?_
 refine AW.seq ?_
 by_cases hx5 : ((0 : Int) < ((((qB a n) - i) : Nat) : Int))
 ·by_cases hx6 : ((0 : Int) < ((((qB b m) - j) : Nat) : Int))
  ·by_cases hx7 : (((k : Nat) : Int) < 64)
   ·refine kK [.no, .no, .b true, .no, .no, .no, .b true, .no, .no, .no, .no, .b true, .no] ((((0 : Int) < ((((qB a n) - i) : Nat) : Int))) ∧ (((0 : Int) < ((((qB b m) - j) : Nat) : Int))) ∧ (((k : Int) < 64))) [(4, rV 2 0), (5, oV 4 0 k 2), (6, sV .i64 (ka3 (i * 2) (kC a n)) ((qB a n) - i)), (7, sV .i64 (ka3 (j * 2) (kC b m)) ((qB b m) - j)), (25, bV true)] [(2, some (60, .ds [qQ])), (4, some (95, .ds (dI .i64 o)))] 5 ⟨zo, zo, zo⟩ ?_
    refine vR ?_
    refine AW.block ?_
    have hx8 : ka1 (ka3 (i * 2) (kC a n)) 0 0 = ka1 (kC a n) (i * 2) 0 := eE
    have hx9 : ka1 (ka3 (i * 2) (kC a n)) 1 0 = ka1 (kC a n) (i * 2 + 1) 0 := eE
    have hx10 : ka1 (ka3 (j * 2) (kC b m)) 0 0 = ka1 (kC b m) (j * 2) 0 := eE
    have hx11 : ka1 (ka3 (j * 2) (kC b m)) 1 0 = ka1 (kC b m) (j * 2 + 1) 0 := eE
    refine kK [.no, .n 0, .no, .d (D.lit (.int .i64 (ka1 (ka3 (i * 2) (kC a n)) 0 0))), .no, .n 0, .no, .d (D.lit (.int .i64 (ka1 (ka3 (j * 2) (kC b m)) 0 0))), .no, .no, .n 0, .no, .d (D.lit (.int .i64 (ka1 (ka3 (i * 2) (kC a n)) 1 0))), .no, .n 0, .no, .d (D.lit (.int .i64 (ka1 (ka3 (j * 2) (kC b m)) 1 0))), .no, .no, .no, .no] ((kS 0) ∧ ((0 : Nat) < ((qB a n) - i)) ∧ ((ka3 0 (ka3 0 (dI .i64 (ka3 (i * 2) (kC a n)))))[0]? = some (D.lit (.int .i64 (ka1 (ka3 (i * 2) (kC a n)) 0 0)))) ∧ (kS 0) ∧ ((0 : Nat) < ((qB b m) - j)) ∧ ((ka3 0 (ka3 0 (dI .i64 (ka3 (j * 2) (kC b m)))))[0]? = some (D.lit (.int .i64 (ka1 (ka3 (j * 2) (kC b m)) 0 0)))) ∧ (kS 0) ∧ ((0 : Nat) < ((qB a n) - i)) ∧ ((ka3 1 (ka3 0 (dI .i64 (ka3 (i * 2) (kC a n)))))[0]? = some (D.lit (.int .i64 (ka1 (ka3 (i * 2) (kC a n)) 1 0)))) ∧ (kS 0) ∧ ((0 : Nat) < ((qB b m) - j)) ∧ ((ka3 1 (ka3 0 (dI .i64 (ka3 (j * 2) (kC b m)))))[0]? = some (D.lit (.int .i64 (ka1 (ka3 (j * 2) (kC b m)) 1 0))))) [(4, rV 2 0), (5, oV 4 0 k 2), (6, sV .i64 (ka3 (i * 2) (kC a n)) ((qB a n) - i)), (7, sV .i64 (ka3 (j * 2) (kC b m)) ((qB b m) - j)), (8, rV 5 0)] [(2, some (60, .ds [qQ])), (4, some (95, .ds (dI .i64 o))), (5, some (95, (u5w i a n j b m)))] 6 ⟨rfl, zo, bZ, rfl, zo, bZ, rfl, zo, bZ, rfl, zo, bZ⟩ ?_
    refine AW.seq ?_
    by_cases hx12 : ((max (ka1 (ka3 (i * 2) (kC a n)) 0 0) (ka1 (ka3 (j * 2) (kC b m)) 0 0)) ≤ (min (ka1 (ka3 (i * 2) (kC a n)) 1 0) (ka1 (ka3 (j * 2) (kC b m)) 1 0)))
    ·refine kT (qN 4 [.b true]) (((max (ka1 (ka3 (i * 2) (kC a n)) 0 0) (ka1 (ka3 (j * 2) (kC b m)) 0 0)) ≤ (min (ka1 (ka3 (i * 2) (kC a n)) 1 0) (ka1 (ka3 (j * 2) (kC b m)) 1 0)))) [(4, rV 2 0), (5, oV 4 0 k 2), (6, sV .i64 (ka3 (i * 2) (kC a n)) ((qB a n) - i)), (7, sV .i64 (ka3 (j * 2) (kC b m)) ((qB b m) - j)), (8, rV 5 0), (49, bV true)] zo ?_
     refine zt ?_
     refine aG [.no, .no, .no, .ap none (k + 1) (dI .i64 (o ++ ([(max (ka1 (ka3 (i * 2) (kC a n)) 0 0) (ka1 (ka3 (j * 2) (kC b m)) 0 0)), (min (ka1 (ka3 (i * 2) (kC a n)) 1 0) (ka1 (ka3 (j * 2) (kC b m)) 1 0))] : List Int))), .no] (([iD (max (ka1 (ka3 (i * 2) (kC a n)) 0 0) (ka1 (ka3 (j * 2) (kC b m)) 0 0)), iD (min (ka1 (ka3 (i * 2) (kC a n)) 1 0) (ka1 (ka3 (j * 2) (kC b m)) 1 0))].length = 1 * 2) ∧ (((dI .i64 o) : List D).length = k * 2) ∧ ((k + 1) * 16 ≤ 140737488355328) ∧ (k + 1 = (k + 1)) ∧ (((dI .i64 o) : List D) ++ [iD (max (ka1 (ka3 (i * 2) (kC a n)) 0 0) (ka1 (ka3 (j * 2) (kC b m)) 0 0)), iD (min (ka1 (ka3 (i * 2) (kC a n)) 1 0) (ka1 (ka3 (j * 2) (kC b m)) 1 0))] = (dI .i64 (o ++ ([(max (ka1 (ka3 (i * 2) (kC a n)) 0 0) (ka1 (ka3 (j * 2) (kC b m)) 0 0)), (min (ka1 (ka3 (i * 2) (kC a n)) 1 0) (ka1 (ka3 (j * 2) (kC b m)) 1 0))] : List Int))))) [(4, rV 2 0), (5, oV 7 0 (k + 1) 2), (6, sV .i64 (ka3 (i * 2) (kC a n)) ((qB a n) - i)), (7, sV .i64 (ka3 (j * 2) (kC b m)) ((qB b m) - j))] [(2, some (60, .ds [qQ])), (7, some (95, .ds (dI .i64 (o ++ ([(max (ka1 (ka3 (i * 2) (kC a n)) 0 0) (ka1 (ka3 (j * 2) (kC b m)) 0 0)), (min (ka1 (ka3 (i * 2) (kC a n)) 1 0) (ka1 (ka3 (j * 2) (kC b m)) 1 0))] : List Int)))))] 8 ⟨eM, eM, zo, zo, (y9 .i64 o ([(max (ka1 (ka3 (i * 2) (kC a n)) 0 0) (ka1 (ka3 (j * 2) (kC b m)) 0 0)), (min (ka1 (ka3 (i * 2) (kC a n)) 1 0) (ka1 (ka3 (j * 2) (kC b m)) 1 0))] : List Int))⟩ ?_
     by_cases hx13 : ((ka1 (ka3 (i * 2) (kC a n)) 1 0) < (ka1 (ka3 (j * 2) (kC b m)) 1 0))
     ·refine kT [.no, .n 0, .no, .d (D.lit (.int .i64 (ka1 (ka3 (i * 2) (kC a n)) 1 0))), .no, .n 0, .no, .d (D.lit (.int .i64 (ka1 (ka3 (j * 2) (kC b m)) 1 0))), .b true] ((kS 0) ∧ ((0 : Nat) < ((qB a n) - i)) ∧ ((ka3 1 (ka3 0 (dI .i64 (ka3 (i * 2) (kC a n)))))[0]? = some (D.lit (.int .i64 (ka1 (ka3 (i * 2) (kC a n)) 1 0)))) ∧ (kS 0) ∧ ((0 : Nat) < ((qB b m) - j)) ∧ ((ka3 1 (ka3 0 (dI .i64 (ka3 (j * 2) (kC b m)))))[0]? = some (D.lit (.int .i64 (ka1 (ka3 (j * 2) (kC b m)) 1 0)))) ∧ (((ka1 (ka3 (i * 2) (kC a n)) 1 0) < (ka1 (ka3 (j * 2) (kC b m)) 1 0)))) [(4, rV 2 0), (5, oV 7 0 (k + 1) 2), (6, sV .i64 (ka3 (i * 2) (kC a n)) ((qB a n) - i)), (7, sV .i64 (ka3 (j * 2) (kC b m)) ((qB b m) - j)), (62, bV true)] ⟨rfl, zo, bZ, rfl, zo, bZ, zo⟩ ?_
      refine zt ?_
      refine yT [.no, .sls 1 ((qB a n) - i) (((qB a n) - i) - 1) (dI .i64 (ka5 ((((qB a n) - i) - 1) * 2) (ka3 2 (ka3 (i * 2) (kC a n))))), .no] ((kS 1) ∧ (((qB a n) - i) = ((qB a n) - i)) ∧ ((1 : Nat) ≤ ((qB a n) - i)) ∧ (((qB a n) - i) ≤ ((qB a n) - i)) ∧ (((qB a n) - i) - 1 = (((qB a n) - i) - 1)) ∧ (ka5 ((((qB a n) - i) - 1) * 2) (ka3 (1 * 2) (dI .i64 (ka3 (i * 2) (kC a n)))) = (dI .i64 (ka5 ((((qB a n) - i) - 1) * 2) (ka3 2 (ka3 (i * 2) (kC a n))))))) [(4, rV 2 0), (5, oV 7 0 (k + 1) 2), (6, sV .i64 (ka5 ((((qB a n) - i) - 1) * 2) (ka3 2 (ka3 (i * 2) (kC a n)))) (((qB a n) - i) - 1)), (7, sV .i64 (ka3 (j * 2) (kC b m)) ((qB b m) - j))] ⟨rfl, rfl, zo, zo, zo, rU⟩ ?_
      exact qE ⟨(((i + 1) : Nat), (j : Nat), ((k + 1) : Nat), ((o ++ ([(max (ka1 (ka3 (i * 2) (kC a n)) 0 0) (ka1 (ka3 (j * 2) (kC b m)) 0 0)), (min (ka1 (ka3 (i * 2) (kC a n)) 1 0) (ka1 (ka3 (j * 2) (kC b m)) 1 0))] : List Int)) : List Int)), ⟨v7, (by first | exact hX.ly (qD ha) (qD hb) (uS ha) (uS hb) zo zo zo zo zo zo | exact hX.ln (qD ha) (qD hb) (uS ha) (uS hb) zo zo zo zo | exact hX.ry (qD ha) (qD hb) (uS ha) (uS hb) zo zo zo zo zo zo | exact hX.rn (qD ha) (qD hb) (uS ha) (uS hb) zo zo zo zo), rW⟩⟩ [(4, 7)] (P := (kJ 0) ∧ (kJ 0) ∧ (kJ (k + 1)) ∧ (((dI .i64 (ka3 ((i + 1) * 2) (kC a n))) : List D) = (dI .i64 (ka5 ((((qB a n) - i) - 1) * 2) (ka3 2 (ka3 (i * 2) (kC a n)))))) ∧ ((((qB a n) - (i + 1)) : Nat) = (((qB a n) - i) - 1)) ∧ (kN (dI .i64 (ka3 (j * 2) (kC b m)))) ∧ (kJ ((qB b m) - j)) ∧ (kN [qQ]) ∧ (kN (dI .i64 (o ++ ([(max (ka1 (ka3 (i * 2) (kC a n)) 0 0) (ka1 (ka3 (j * 2) (kC b m)) 0 0)), (min (ka1 (ka3 (i * 2) (kC a n)) 1 0) (ka1 (ka3 (j * 2) (kC b m)) 1 0))] : List Int))))) zk ⟨rfl, rfl, rfl, (by first | rfl | with_reducible assumption | exact dp1 (qD ha) | exact dp1 (qD hb)), cN, rfl, rfl, rfl, rfl⟩ (show (qB a n - (i + 1)) + (qB b m - j) < (qB a n - i) + (qB b m - j) from eL)
     ·refine kT [.no, .n 0, .no, .d (D.lit (.int .i64 (ka1 (ka3 (i * 2) (kC a n)) 1 0))), .no, .n 0, .no, .d (D.lit (.int .i64 (ka1 (ka3 (j * 2) (kC b m)) 1 0))), .b false] ((kS 0) ∧ ((0 : Nat) < ((qB a n) - i)) ∧ ((ka3 1 (ka3 0 (dI .i64 (ka3 (i * 2) (kC a n)))))[0]? = some (D.lit (.int .i64 (ka1 (ka3 (i * 2) (kC a n)) 1 0)))) ∧ (kS 0) ∧ ((0 : Nat) < ((qB b m) - j)) ∧ ((ka3 1 (ka3 0 (dI .i64 (ka3 (j * 2) (kC b m)))))[0]? = some (D.lit (.int .i64 (ka1 (ka3 (j * 2) (kC b m)) 1 0)))) ∧ (¬ ((ka1 (ka3 (i * 2) (kC a n)) 1 0) < (ka1 (ka3 (j * 2) (kC b m)) 1 0)))) [(4, rV 2 0), (5, oV 7 0 (k + 1) 2), (6, sV .i64 (ka3 (i * 2) (kC a n)) ((qB a n) - i)), (7, sV .i64 (ka3 (j * 2) (kC b m)) ((qB b m) - j)), (62, bV false)] ⟨rfl, zo, bZ, rfl, zo, bZ, zo⟩ ?_
      refine zf ?_
      refine yT [.no, .sls 1 ((qB b m) - j) (((qB b m) - j) - 1) (dI .i64 (ka5 ((((qB b m) - j) - 1) * 2) (ka3 2 (ka3 (j * 2) (kC b m))))), .no] ((kS 1) ∧ (((qB b m) - j) = ((qB b m) - j)) ∧ ((1 : Nat) ≤ ((qB b m) - j)) ∧ (((qB b m) - j) ≤ ((qB b m) - j)) ∧ (((qB b m) - j) - 1 = (((qB b m) - j) - 1)) ∧ (ka5 ((((qB b m) - j) - 1) * 2) (ka3 (1 * 2) (dI .i64 (ka3 (j * 2) (kC b m)))) = (dI .i64 (ka5 ((((qB b m) - j) - 1) * 2) (ka3 2 (ka3 (j * 2) (kC b m))))))) [(4, rV 2 0), (5, oV 7 0 (k + 1) 2), (6, sV .i64 (ka3 (i * 2) (kC a n)) ((qB a n) - i)), (7, sV .i64 (ka5 ((((qB b m) - j) - 1) * 2) (ka3 2 (ka3 (j * 2) (kC b m)))) (((qB b m) - j) - 1))] ⟨rfl, rfl, zo, zo, zo, rU⟩ ?_
      exact qE ⟨((i : Nat), ((j + 1) : Nat), ((k + 1) : Nat), ((o ++ ([(max (ka1 (ka3 (i * 2) (kC a n)) 0 0) (ka1 (ka3 (j * 2) (kC b m)) 0 0)), (min (ka1 (ka3 (i * 2) (kC a n)) 1 0) (ka1 (ka3 (j * 2) (kC b m)) 1 0))] : List Int)) : List Int)), ⟨v7, (by first | exact hX.ly (qD ha) (qD hb) (uS ha) (uS hb) zo zo zo zo zo zo | exact hX.ln (qD ha) (qD hb) (uS ha) (uS hb) zo zo zo zo | exact hX.ry (qD ha) (qD hb) (uS ha) (uS hb) zo zo zo zo zo zo | exact hX.rn (qD ha) (qD hb) (uS ha) (uS hb) zo zo zo zo), rW⟩⟩ [(4, 7)] (P := (kJ 0) ∧ (kJ 0) ∧ (kJ (k + 1)) ∧ (kN (dI .i64 (ka3 (i * 2) (kC a n)))) ∧ (kJ ((qB a n) - i)) ∧ (((dI .i64 (ka3 ((j + 1) * 2) (kC b m))) : List D) = (dI .i64 (ka5 ((((qB b m) - j) - 1) * 2) (ka3 2 (ka3 (j * 2) (kC b m)))))) ∧ ((((qB b m) - (j + 1)) : Nat) = (((qB b m) - j) - 1)) ∧ (kN [qQ]) ∧ (kN (dI .i64 (o ++ ([(max (ka1 (ka3 (i * 2) (kC a n)) 0 0) (ka1 (ka3 (j * 2) (kC b m)) 0 0)), (min (ka1 (ka3 (i * 2) (kC a n)) 1 0) (ka1 (ka3 (j * 2) (kC b m)) 1 0))] : List Int))))) zk ⟨rfl, rfl, rfl, rfl, rfl, (by first | rfl | with_reducible assumption | exact dp1 (qD ha) | exact dp1 (qD hb)), cN, rfl, rfl⟩ (show (qB a n - i) + (qB b m - (j + 1)) < (qB a n - i) + (qB b m - j) from eL)
    ·refine kT (qN 4 [.b false]) (¬ ((max (ka1 (ka3 (i * 2) (kC a n)) 0 0) (ka1 (ka3 (j * 2) (kC b m)) 0 0)) ≤ (min (ka1 (ka3 (i * 2) (kC a n)) 1 0) (ka1 (ka3 (j * 2) (kC b m)) 1 0)))) [(4, rV 2 0), (5, oV 4 0 k 2), (6, sV .i64 (ka3 (i * 2) (kC a n)) ((qB a n) - i)), (7, sV .i64 (ka3 (j * 2) (kC b m)) ((qB b m) - j)), (8, rV 5 0), (49, bV false)] zo ?_
     refine yA ?_
     by_cases hx14 : ((ka1 (ka3 (i * 2) (kC a n)) 1 0) < (ka1 (ka3 (j * 2) (kC b m)) 1 0))
     ·refine kK [.no, .n 0, .no, .d (D.lit (.int .i64 (ka1 (ka3 (i * 2) (kC a n)) 1 0))), .no, .n 0, .no, .d (D.lit (.int .i64 (ka1 (ka3 (j * 2) (kC b m)) 1 0))), .b true] ((kS 0) ∧ ((0 : Nat) < ((qB a n) - i)) ∧ ((ka3 1 (ka3 0 (dI .i64 (ka3 (i * 2) (kC a n)))))[0]? = some (D.lit (.int .i64 (ka1 (ka3 (i * 2) (kC a n)) 1 0)))) ∧ (kS 0) ∧ ((0 : Nat) < ((qB b m) - j)) ∧ ((ka3 1 (ka3 0 (dI .i64 (ka3 (j * 2) (kC b m)))))[0]? = some (D.lit (.int .i64 (ka1 (ka3 (j * 2) (kC b m)) 1 0)))) ∧ (((ka1 (ka3 (i * 2) (kC a n)) 1 0) < (ka1 (ka3 (j * 2) (kC b m)) 1 0)))) [(4, rV 2 0), (5, oV 4 0 k 2), (6, sV .i64 (ka3 (i * 2) (kC a n)) ((qB a n) - i)), (7, sV .i64 (ka3 (j * 2) (kC b m)) ((qB b m) - j)), (62, bV true)] [(2, some (60, .ds [qQ])), (4, some (95, .ds (dI .i64 o)))] 6 ⟨rfl, zo, bZ, rfl, zo, bZ, zo⟩ ?_
      refine zt ?_
      refine yT [.no, .sls 1 ((qB a n) - i) (((qB a n) - i) - 1) (dI .i64 (ka5 ((((qB a n) - i) - 1) * 2) (ka3 2 (ka3 (i * 2) (kC a n))))), .no] ((kS 1) ∧ (((qB a n) - i) = ((qB a n) - i)) ∧ ((1 : Nat) ≤ ((qB a n) - i)) ∧ (((qB a n) - i) ≤ ((qB a n) - i)) ∧ (((qB a n) - i) - 1 = (((qB a n) - i) - 1)) ∧ (ka5 ((((qB a n) - i) - 1) * 2) (ka3 (1 * 2) (dI .i64 (ka3 (i * 2) (kC a n)))) = (dI .i64 (ka5 ((((qB a n) - i) - 1) * 2) (ka3 2 (ka3 (i * 2) (kC a n))))))) [(4, rV 2 0), (5, oV 4 0 k 2), (6, sV .i64 (ka5 ((((qB a n) - i) - 1) * 2) (ka3 2 (ka3 (i * 2) (kC a n)))) (((qB a n) - i) - 1)), (7, sV .i64 (ka3 (j * 2) (kC b m)) ((qB b m) - j))] ⟨rfl, rfl, zo, zo, zo, rU⟩ ?_
      exact qE ⟨(((i + 1) : Nat), (j : Nat), (k : Nat), (o : List Int)), ⟨v7, (by first | exact hX.ly (qD ha) (qD hb) (uS ha) (uS hb) zo zo zo zo zo zo | exact hX.ln (qD ha) (qD hb) (uS ha) (uS hb) zo zo zo zo | exact hX.ry (qD ha) (qD hb) (uS ha) (uS hb) zo zo zo zo zo zo | exact hX.rn (qD ha) (qD hb) (uS ha) (uS hb) zo zo zo zo), rW⟩⟩ [] (P := (kJ 0) ∧ (kJ 0) ∧ (kJ k) ∧ (((dI .i64 (ka3 ((i + 1) * 2) (kC a n))) : List D) = (dI .i64 (ka5 ((((qB a n) - i) - 1) * 2) (ka3 2 (ka3 (i * 2) (kC a n)))))) ∧ ((((qB a n) - (i + 1)) : Nat) = (((qB a n) - i) - 1)) ∧ (kN (dI .i64 (ka3 (j * 2) (kC b m)))) ∧ (kJ ((qB b m) - j)) ∧ (kN [qQ]) ∧ (kN (dI .i64 o))) zk ⟨rfl, rfl, rfl, (by first | rfl | with_reducible assumption | exact dp1 (qD ha) | exact dp1 (qD hb)), cN, rfl, rfl, rfl, rfl⟩ (show (qB a n - (i + 1)) + (qB b m - j) < (qB a n - i) + (qB b m - j) from eL)
     ·refine kK [.no, .n 0, .no, .d (D.lit (.int .i64 (ka1 (ka3 (i * 2) (kC a n)) 1 0))), .no, .n 0, .no, .d (D.lit (.int .i64 (ka1 (ka3 (j * 2) (kC b m)) 1 0))), .b false] ((kS 0) ∧ ((0 : Nat) < ((qB a n) - i)) ∧ ((ka3 1 (ka3 0 (dI .i64 (ka3 (i * 2) (kC a n)))))[0]? = some (D.lit (.int .i64 (ka1 (ka3 (i * 2) (kC a n)) 1 0)))) ∧ (kS 0) ∧ ((0 : Nat) < ((qB b m) - j)) ∧ ((ka3 1 (ka3 0 (dI .i64 (ka3 (j * 2) (kC b m)))))[0]? = some (D.lit (.int .i64 (ka1 (ka3 (j * 2) (kC b m)) 1 0)))) ∧ (¬ ((ka1 (ka3 (i * 2) (kC a n)) 1 0) < (ka1 (ka3 (j * 2) (kC b m)) 1 0)))) [(4, rV 2 0), (5, oV 4 0 k 2), (6, sV .i64 (ka3 (i * 2) (kC a n)) ((qB a n) - i)), (7, sV .i64 (ka3 (j * 2) (kC b m)) ((qB b m) - j)), (62, bV false)] [(2, some (60, .ds [qQ])), (4, some (95, .ds (dI .i64 o)))] 6 ⟨rfl, zo, bZ, rfl, zo, bZ, zo⟩ ?_
      refine zf ?_
      refine yT [.no, .sls 1 ((qB b m) - j) (((qB b m) - j) - 1) (dI .i64 (ka5 ((((qB b m) - j) - 1) * 2) (ka3 2 (ka3 (j * 2) (kC b m))))), .no] ((kS 1) ∧ (((qB b m) - j) = ((qB b m) - j)) ∧ ((1 : Nat) ≤ ((qB b m) - j)) ∧ (((qB b m) - j) ≤ ((qB b m) - j)) ∧ (((qB b m) - j) - 1 = (((qB b m) - j) - 1)) ∧ (ka5 ((((qB b m) - j) - 1) * 2) (ka3 (1 * 2) (dI .i64 (ka3 (j * 2) (kC b m)))) = (dI .i64 (ka5 ((((qB b m) - j) - 1) * 2) (ka3 2 (ka3 (j * 2) (kC b m))))))) [(4, rV 2 0), (5, oV 4 0 k 2), (6, sV .i64 (ka3 (i * 2) (kC a n)) ((qB a n) - i)), (7, sV .i64 (ka5 ((((qB b m) - j) - 1) * 2) (ka3 2 (ka3 (j * 2) (kC b m)))) (((qB b m) - j) - 1))] ⟨rfl, rfl, zo, zo, zo, rU⟩ ?_
      exact qE ⟨((i : Nat), ((j + 1) : Nat), (k : Nat), (o : List Int)), ⟨v7, (by first | exact hX.ly (qD ha) (qD hb) (uS ha) (uS hb) zo zo zo zo zo zo | exact hX.ln (qD ha) (qD hb) (uS ha) (uS hb) zo zo zo zo | exact hX.ry (qD ha) (qD hb) (uS ha) (uS hb) zo zo zo zo zo zo | exact hX.rn (qD ha) (qD hb) (uS ha) (uS hb) zo zo zo zo), rW⟩⟩ [] (P := (kJ 0) ∧ (kJ 0) ∧ (kJ k) ∧ (kN (dI .i64 (ka3 (i * 2) (kC a n)))) ∧ (kJ ((qB a n) - i)) ∧ (((dI .i64 (ka3 ((j + 1) * 2) (kC b m))) : List D) = (dI .i64 (ka5 ((((qB b m) - j) - 1) * 2) (ka3 2 (ka3 (j * 2) (kC b m)))))) ∧ ((((qB b m) - (j + 1)) : Nat) = (((qB b m) - j) - 1)) ∧ (kN [qQ]) ∧ (kN (dI .i64 o))) zk ⟨rfl, rfl, rfl, rfl, rfl, (by first | rfl | with_reducible assumption | exact dp1 (qD ha) | exact dp1 (qD hb)), cN, rfl, rfl⟩ (show (qB a n - i) + (qB b m - (j + 1)) < (qB a n - i) + (qB b m - j) from eL)
   ·refine kK [.no, .no, .b true, .no, .no, .no, .b true, .no, .no, .no, .no, .b false, .no] ((((0 : Int) < ((((qB a n) - i) : Nat) : Int))) ∧ (((0 : Int) < ((((qB b m) - j) : Nat) : Int))) ∧ (¬ ((k : Int) < 64))) [(4, rV 2 0), (5, oV 4 0 k 2), (6, sV .i64 (ka3 (i * 2) (kC a n)) ((qB a n) - i)), (7, sV .i64 (ka3 (j * 2) (kC b m)) ((qB b m) - j)), (25, bV false)] [(2, some (60, .ds [qQ])), (4, some (95, .ds (dI .i64 o)))] 5 ⟨zo, zo, zo⟩ ?_
    refine zf ?_
    refine AW.exit ?_
    refine kK [.no, .no, .no] True [(4, rV 2 0)] [(2, some (60, .cs [.own 4 0 k 2 true])), (4, some (95, .ds (dI .i64 o)))] 5 trivial ?_
    obtain ⟨hz1, hz2⟩ := hX.fin (qD ha) (qD hb) zo zo
    refine AW.freeze 4 (l' := [(4, rV 2 0)]) (g' := [(2, some (60, .ds [dl o k]))]) rfl (FzS.cons rfl (.same _) FzS.nil) (FzG.to (bc := .cs [.own 4 0 k 2 true]) rfl (by rfl) (FzL.cons (@FzC.own 4 ((dI .i64 o) : List D) 0 k 2 true ((dI .i64 o) : List D) k0a eM) FzL.nil) FzG.nil) ?_
    refine AW.ret ?_
    exact kB (.inr rfl) [] (P := (((dI .i64 (uR (kC a n) (kC b m))) : List D) = (dI .i64 o)) ∧ (((qT (kC a n) (kC b m)) : Nat) = k)) zk ⟨(by first | exact congrArg _ hz1.symm | rfl), rT⟩
  ·refine kK [.no, .no, .b true, .no, .no, .no, .b false, .no, .no, .no] ((((0 : Int) < ((((qB a n) - i) : Nat) : Int))) ∧ (¬ ((0 : Int) < ((((qB b m) - j) : Nat) : Int)))) [(4, rV 2 0), (5, oV 4 0 k 2), (6, sV .i64 (ka3 (i * 2) (kC a n)) ((qB a n) - i)), (7, sV .i64 (ka3 (j * 2) (kC b m)) ((qB b m) - j)), (25, bV false)] [(2, some (60, .ds [qQ])), (4, some (95, .ds (dI .i64 o)))] 5 ⟨zo, zo⟩ ?_
   refine zf ?_
   refine AW.exit ?_
   refine kK [.no, .no, .no] True [(4, rV 2 0)] [(2, some (60, .cs [.own 4 0 k 2 true])), (4, some (95, .ds (dI .i64 o)))] 5 trivial ?_
   obtain ⟨hz1, hz2⟩ := hX.fin (qD ha) (qD hb) zo zo
   refine AW.freeze 4 (l' := [(4, rV 2 0)]) (g' := [(2, some (60, .ds [dl o k]))]) rfl (FzS.cons rfl (.same _) FzS.nil) (FzG.to (bc := .cs [.own 4 0 k 2 true]) rfl (by rfl) (FzL.cons (@FzC.own 4 ((dI .i64 o) : List D) 0 k 2 true ((dI .i64 o) : List D) k0a eM) FzL.nil) FzG.nil) ?_
   refine AW.ret ?_
   exact kB (.inr rfl) [] (P := (((dI .i64 (uR (kC a n) (kC b m))) : List D) = (dI .i64 o)) ∧ (((qT (kC a n) (kC b m)) : Nat) = k)) zk ⟨(by first | exact congrArg _ hz1.symm | rfl), rT⟩
 ·refine kK (.no :: .no :: .b false :: qN 4 []) (¬ ((0 : Int) < ((((qB a n) - i) : Nat) : Int))) [(4, rV 2 0), (5, oV 4 0 k 2), (6, sV .i64 (ka3 (i * 2) (kC a n)) ((qB a n) - i)), (7, sV .i64 (ka3 (j * 2) (kC b m)) ((qB b m) - j)), (25, bV false)] [(2, some (60, .ds [qQ])), (4, some (95, .ds (dI .i64 o)))] 5 zo ?_
  refine zf ?_
  refine AW.exit ?_
  refine kK [.no, .no, .no] True [(4, rV 2 0)] [(2, some (60, .cs [.own 4 0 k 2 true])), (4, some (95, .ds (dI .i64 o)))] 5 trivial ?_
  obtain ⟨hz1, hz2⟩ := hX.fin (qD ha) (qD hb) zo zo
  refine AW.freeze 4 (l' := [(4, rV 2 0)]) (g' := [(2, some (60, .ds [dl o k]))]) rfl (FzS.cons rfl (.same _) FzS.nil) (FzG.to (bc := .cs [.own 4 0 k 2 true]) rfl (by rfl) (FzL.cons (@FzC.own 4 ((dI .i64 o) : List D) 0 k 2 true ((dI .i64 o) : List D) k0a eM) FzL.nil) FzG.nil) ?_
  refine AW.ret ?_
  exact kB (.inr rfl) [] (P := (((dI .i64 (uR (kC a n) (kC b m))) : List D) = (dI .i64 o)) ∧ (((qT (kC a n) (kC b m)) : Nat) = k)) zk ⟨(by first | exact congrArg _ hz1.symm | rfl), rT⟩
theorem k09 {p : Prop} (h : p := by first | rfl | assumption | exact decide_eq_true (by omega) | exact decide_eq_false (by omega) | (simp; omega)) : p := h
theorem rH (p q u w : Int)  : Fun 157 [.agg [iC p, iC q], .c (.ptr 0 0)] (kH [(0, some (95, .ds [iD u, iD w]))]) 1 (yM (D.lit (.bool (decide (p ≤ u ∧ w ≤ q))))) (kH [(0, some (95, .ds [iD u, iD w]))]) 1 := by
 refine Fun.mk (n := 16) Tryz.func157 rfl rfl (ka4 rfl) ?_
 intro cx hcx
 refine kK [.no, .no] True [(1, rV 0 0), (2, rV 1 0)] [(0, some (95, .ds [iD u, iD w])), (1, some (95, .ds [iD p, iD q]))] 2 trivial ?_
 by_cases hx1 : (p ≤ u)
 ·by_cases hx2 : (w ≤ q)
  ·refine kK (qN 4 (.b true :: qN 5 [.b true, .no, .no])) (((p ≤ u)) ∧ ((w ≤ q))) [(3, bV true)] [(0, some (95, .ds [iD u, iD w]))] 2 ⟨zo, zo⟩ ?_
   refine AW.ret ?_
   exact kB (.inr rfl) [] (P := ((decide (p ≤ u ∧ w ≤ q)) = true) ∧ (kN [iD u, iD w])) zk ⟨k09, rfl⟩
  ·refine kK (qN 4 (.b true :: qN 5 [.b false, .no, .no])) (((p ≤ u)) ∧ (¬ (w ≤ q))) [(3, bV false)] [(0, some (95, .ds [iD u, iD w]))] 2 ⟨zo, zo⟩ ?_
   refine AW.ret ?_
   exact kB (.inr rfl) [] (P := ((decide (p ≤ u ∧ w ≤ q)) = false) ∧ (kN [iD u, iD w])) zk ⟨k09, rfl⟩
 ·refine kK (qN 4 [.b false, .no, .no, .no]) (¬ (p ≤ u)) [(3, bV false)] [(0, some (95, .ds [iD u, iD w]))] 2 zo ?_
  refine AW.ret ?_
  exact kB (.inr rfl) [] (P := ((decide (p ≤ u ∧ w ≤ q)) = false) ∧ (kN [iD u, iD w])) zk ⟨k09, rfl⟩
theorem l4 (b : List Int) (m : Nat) (u w : Int) (hb : ka0 b = m * 2) (h2 : m ≤ 1000000) : Fun 169 [.c (.d (D.sl (dI .i64 b) m)), .c (.fn 157 [(0, 0)])] (kH [(0, some (95, .ds [iD u, iD w]))]) 1 (iV (mR b u w m)) (kH [(0, some (95, .ds [iD u, iD w]))]) 1 := by
 refine Fun.mk (n := 19) Tryz.func169 rfl rfl (ka4 rfl) ?_
 intro cx hcx
 refine kK [.no] True [(0, sV .i64 b m), (1, .e (.c (.fn 157 [(0, 0)])))] [(0, some (95, .ds [iD u, iD w]))] 1 trivial ?_
 refine AW.seq ?_
 refine kT [.no, .no, .no] True [(0, sV .i64 b m), (1, .e (.c (.fn 157 [(0, 0)]))), (7, uV m), (8, iV 0)] trivial ?_
 refine AW.block ?_
 refine qH 1 hcx (fun (x : {x : Nat // match x with | k => (k ≤ m) ∧ (mR b u w k = -1)}) => match x with | ⟨k, _⟩ => (⟨[(0, sV .i64 b m), (1, .e (.c (.fn 157 [(0, 0)]))), (7, uV m), (8, uV k)], [(0, some (95, .ds [iD u, iD w]))], 1⟩ : ES)) (fun x => match x with | ⟨k, _⟩ => m - k) ⟨(0 : Nat), ⟨v7, rfl⟩⟩ [] (P := (kN (dI .i64 b)) ∧ (kJ m) ∧ (kS (m : Int)) ∧ (kS 0) ∧ (kN [iD u, iD w])) zk ⟨rfl, rfl, rfl, rfl, rfl⟩ ?_
 rintro ⟨k, hinv0⟩
 obtain ⟨hk, hi⟩ : (k ≤ m) ∧ (mR b u w k = -1) := hinv0
 refine uL (l := [(0, sV .i64 b m), (1, .e (.c (.fn 157 [(0, 0)]))), (7, uV m), (8, uV k)]) (g := [(0, some (95, .ds [iD u, iD w]))]) (nx := 1) rfl rfl rfl ?_
 by_cases hx1 : (((k : Nat) : Int) < ((m : Nat) : Int))
 ·refine kK [.b true] (((k : Int) < (m : Int))) [(0, sV .i64 b m), (1, .e (.c (.fn 157 [(0, 0)]))), (7, uV m), (8, uV k), (9, bV true)] [(0, some (95, .ds [iD u, iD w]))] 1 zo ?_
  refine AW.seq ?_
  refine vR ?_
  refine AW.seq ?_
  refine AW.block ?_
  refine kT [.no, .no] True [(0, sV .i64 b m), (1, .e (.c (.fn 157 [(0, 0)]))), (5, uV k), (7, uV m), (8, uV k)] trivial ?_
  rcases kb3 (decide ((ka1 b (k * 2) 0) ≤ u ∧ w ≤ (ka1 b ((k * 2) + 1) 0))) with hx2 | hx2
  ·have hx3 : (((ka1 b (k * 2) 0) ≤ u) ∧ (w ≤ (ka1 b ((k * 2) + 1) 0))) := of_decide_eq_true hx2
   refine kT [.no, .no, .no, .n k, .ds [iD (ka1 b (k * 2) 0), iD (ka1 b ((k * 2) + 1) 0)], .call [0] (bV true) [(0, some (95, .ds [iD u, iD w]))] 1 [] none] ((kS (k : Int)) ∧ (k < m) ∧ (ka5 2 (ka3 (k * 2) (dI .i64 b)) = [iD (ka1 b (k * 2) 0), iD (ka1 b ((k * 2) + 1) 0)]) ∧ (([iD (ka1 b (k * 2) 0), iD (ka1 b ((k * 2) + 1) 0)] : List D).length = 2) ∧ (Fun 157 [.agg [iC (ka1 b (k * 2) 0), iC (ka1 b ((k * 2) + 1) 0)], .c (.ptr 0 0)] (kH [(0, some (95, .ds [iD u, iD w]))]) 1 (bV true) (kH [(0, some (95, .ds [iD u, iD w]))]) 1)) [(0, sV .i64 b m), (1, .e (.c (.fn 157 [(0, 0)]))), (5, uV k), (7, uV m), (8, uV k), (16, bV true)] ⟨rfl, zo, (b9 .i64 b (k * 2) 2 eM), rfl, (by have h0 := (rH (ka1 b (k * 2) 0) (ka1 b ((k * 2) + 1) 0) u w); rw [hx2] at h0; exact h0)⟩ ?_
   refine zt ?_
   refine kT [.no, .no] True [(4, uV k)] trivial ?_
   refine AW.ret ?_
   exact kB (.inr rfl) [] (P := (((mR b u w m) : Int) = (k : Int)) ∧ (kN [iD u, iD w])) zk ⟨(by first | rfl | exact tR hi zo m zo | (rw [show m = k by omega]; exact hi) | omega), rfl⟩
  ·have hx4 : ¬ (((ka1 b (k * 2) 0) ≤ u) ∧ (w ≤ (ka1 b ((k * 2) + 1) 0))) := of_decide_eq_false hx2
   refine kT [.no, .no, .no, .n k, .ds [iD (ka1 b (k * 2) 0), iD (ka1 b ((k * 2) + 1) 0)], .call [0] (bV false) [(0, some (95, .ds [iD u, iD w]))] 1 [] none] ((kS (k : Int)) ∧ (k < m) ∧ (ka5 2 (ka3 (k * 2) (dI .i64 b)) = [iD (ka1 b (k * 2) 0), iD (ka1 b ((k * 2) + 1) 0)]) ∧ (([iD (ka1 b (k * 2) 0), iD (ka1 b ((k * 2) + 1) 0)] : List D).length = 2) ∧ (Fun 157 [.agg [iC (ka1 b (k * 2) 0), iC (ka1 b ((k * 2) + 1) 0)], .c (.ptr 0 0)] (kH [(0, some (95, .ds [iD u, iD w]))]) 1 (bV false) (kH [(0, some (95, .ds [iD u, iD w]))]) 1)) [(0, sV .i64 b m), (1, .e (.c (.fn 157 [(0, 0)]))), (5, uV k), (7, uV m), (8, uV k), (16, bV false)] ⟨rfl, zo, (b9 .i64 b (k * 2) 2 eM), rfl, (by have h0 := (rH (ka1 b (k * 2) 0) (ka1 b ((k * 2) + 1) 0) u w); rw [hx2] at h0; exact h0)⟩ ?_
   refine yA ?_
   refine yT [.w, .no] ((-9223372036854775808) ≤ ((k : Int) + 1) ∧ ((k : Int) + 1) ≤ 9223372036854775807) [(0, sV .i64 b m), (1, .e (.c (.fn 157 [(0, 0)]))), (7, uV m), (8, iV (↑k + 1))] ⟨by omega, by omega⟩ ?_
   exact qE ⟨((k + 1) : Nat), ⟨v7, (k3b hi zo)⟩⟩ [] (P := (kN (dI .i64 b)) ∧ (kJ m) ∧ (kS (m : Int)) ∧ (((((k + 1) : Nat) : Int) : Int) = ((k : Int) + 1)) ∧ (kN [iD u, iD w])) zk ⟨rfl, rfl, rfl, cN, rfl⟩ (show m - (k + 1) < m - k from eL)
 ·refine kK [.b false] (¬ ((k : Int) < (m : Int))) [(0, sV .i64 b m), (1, .e (.c (.fn 157 [(0, 0)]))), (7, uV m), (8, uV k), (9, bV false)] [(0, some (95, .ds [iD u, iD w]))] 1 zo ?_
  refine AW.seq ?_
  refine zf ?_
  refine AW.exit ?_
  refine kK [.no] True [(4, iV (-1))] [(0, some (95, .ds [iD u, iD w]))] 1 trivial ?_
  refine AW.ret ?_
  exact kB (.inr rfl) [] (P := (((mR b u w m) : Int) = (-1)) ∧ (kN [iD u, iD w])) zk ⟨(by first | rfl | exact tR hi zo m zo | (rw [show m = k by omega]; exact hi) | omega), rfl⟩
theorem oG (b : List Int) (m : Nat) (u w : Int) (hb : ka0 b = m * 2) (h2 : m ≤ 1000000) : Fun 158 [.c (.d (D.sl (dI .i64 b) m)), .c (.fn 157 [(0, 0)])] (kH [(0, some (95, .ds [iD u, iD w]))]) 1 (yM (D.lit (.bool (coB b u w)))) (kH [(0, some (95, .ds [iD u, iD w]))]) 1 := by
 refine Fun.mk (n := 9) Tryz.func158 rfl rfl (ka4 rfl) ?_
 intro cx hcx
 refine kK [.no] True [(0, sV .i64 b m), (1, .e (.c (.fn 157 [(0, 0)])))] [(0, some (95, .ds [iD u, iD w]))] 1 trivial ?_
 by_cases hx1 : ((0 : Int) ≤ (mR b u w m))
 ·refine kT [.no, .no, .call [0] (iV (mR b u w m)) [(0, some (95, .ds [iD u, iD w]))] 1 [] none, .b true, .no] ((_) ∧ (((0 : Int) ≤ (mR b u w m)))) [(4, bV true)] ⟨(l4 b m u w zo zo), zo⟩ ?_
  refine AW.ret ?_
  exact kB (.inr rfl) [] (P := ((coB b u w) = true) ∧ (kN [iD u, iD w])) zk ⟨(by first | exact v1n hb zo | exact v1o hb zo), rfl⟩
 ·refine kT [.no, .no, .call [0] (iV (mR b u w m)) [(0, some (95, .ds [iD u, iD w]))] 1 [] none, .b false, .no] ((_) ∧ (¬ ((0 : Int) ≤ (mR b u w m)))) [(4, bV false)] ⟨(l4 b m u w zo zo), zo⟩ ?_
  refine AW.ret ?_
  exact kB (.inr rfl) [] (P := ((coB b u w) = false) ∧ (kN [iD u, iD w])) zk ⟨(by first | exact v1n hb zo | exact v1o hb zo), rfl⟩
theorem jY {p : Prop} (h : p := by first | omega | with_reducible assumption | (simp only [uX, ka6, ka9, kb1, kb0, kb2, kb4, kb9] <;> omega) | rfl | assumption) : p := h
abbrev g8 (a : List Int) (n : Nat) (k : Nat) : BC := .ds [iD (ka1 (kC a n) (k * 2) 0), iD (ka1 (kC a n) ((k * 2) + 1) 0)]
theorem eH (a b : List Int) (n m : Nat) (ha : ka0 a = n * 2) (hb : ka0 b = m * 2) (h3 : n ≤ 9223372036854775807) (h4 : m ≤ 9223372036854775807) : Fun 131 [.agg [.d (D.sl (dI .i64 a) n)], .agg [.d (D.sl (dI .i64 b) m)]] (kH []) 0 (yM (D.lit (.bool (x4 (kC a n) (kC b m))))) (kH []) 0 := by
 refine Fun.mk (n := 24) Tryz.func131 rfl rfl (ka4 rfl) ?_
 intro cx hcx
 refine kK [.no, .no, .no] True [(2, rV 0 0), (3, rV 1 0)] [(0, some (60, .ds [dl a n])), (1, some (60, .ds [dl b m]))] 2 trivial ?_
 have hx1 : ((ka0 (kC b m)) = ((qB b m) * 2)) := qD (zo)
 have hx2 : (((qB b m) ≤ 64) ∧ ((qB b m) ≤ m)) := lU
 refine kK [.no, .call [] (sV .i64 (kC b m) (qB b m)) [] 0 [] none, .no] _ [(2, rV 0 0), (5, sV .i64 (kC b m) (qB b m))] [(0, some (60, .ds [dl a n]))] 2 (gH b m zo zo) ?_
 refine AW.seq ?_
 have hx3 : ((ka0 (kC a n)) = ((qB a n) * 2)) := qD (zo)
 have hx4 : (((qB a n) ≤ 64) ∧ ((qB a n) ≤ n)) := lU
 refine kK [.no, .call [] (sV .i64 (kC a n) (qB a n)) [] 0 [] none, .no, .no] _ [(5, sV .i64 (kC b m) (qB b m)), (12, sV .i64 (kC a n) (qB a n)), (13, uV (qB a n)), (14, iV 0)] [] 2 (gH a n zo zo) ?_
 refine AW.block ?_
 refine qH 0 hcx (fun (x : {x : Nat // match x with | k => (k ≤ qB a n) ∧ (∀ j, j < k → coB (kC b m) (ka1 (kC a n) (j * 2) 0) (ka1 (kC a n) (j * 2 + 1) 0) = true)}) => match x with | ⟨k, _⟩ => (⟨[(5, sV .i64 (kC b m) (qB b m)), (12, sV .i64 (kC a n) (qB a n)), (13, uV (qB a n)), (14, uV k)], [], 2⟩ : ES)) (fun x => match x with | ⟨k, _⟩ => qB a n - k) ⟨(0 : Nat), ⟨v7, (fun j hj => absurd hj (Nat.not_lt_zero j))⟩⟩ [] (P := (kN (dI .i64 (kC b m))) ∧ (kJ (qB b m)) ∧ (kN (dI .i64 (kC a n))) ∧ (kJ (qB a n)) ∧ (kS (qB a n : Int)) ∧ (kS 0)) zk ⟨rfl, rfl, rfl, rfl, rfl, rfl⟩ ?_
 rintro ⟨k, hinv0⟩
 obtain ⟨hk, hq⟩ : (k ≤ qB a n) ∧ (∀ j, j < k → coB (kC b m) (ka1 (kC a n) (j * 2) 0) (ka1 (kC a n) (j * 2 + 1) 0) = true) := hinv0
 refine uL (l := [(5, sV .i64 (kC b m) (qB b m)), (12, sV .i64 (kC a n) (qB a n)), (13, uV (qB a n)), (14, uV k)]) (g := []) (nx := 2) rfl rfl rfl ?_
 by_cases hx5 : (((k : Nat) : Int) < (((qB a n) : Nat) : Int))
 ·refine kK [.b true] (((k : Int) < (qB a n : Int))) [(5, sV .i64 (kC b m) (qB b m)), (12, sV .i64 (kC a n) (qB a n)), (13, uV (qB a n)), (14, uV k), (15, bV true)] [] 2 zo ?_
  refine AW.seq ?_
  refine vR ?_
  refine AW.seq ?_
  refine AW.block ?_
  refine kK [.n k, .ds [iD (ka1 (kC a n) (k * 2) 0), iD (ka1 (kC a n) ((k * 2) + 1) 0)], .no, .no] ((kS (k : Int)) ∧ (k < (qB a n)) ∧ (ka5 2 (ka3 (k * 2) (dI .i64 (kC a n))) = [iD (ka1 (kC a n) (k * 2) 0), iD (ka1 (kC a n) ((k * 2) + 1) 0)]) ∧ (([iD (ka1 (kC a n) (k * 2) 0), iD (ka1 (kC a n) ((k * 2) + 1) 0)] : List D).length = 2)) [(5, sV .i64 (kC b m) (qB b m)), (7, rV 2 0), (12, sV .i64 (kC a n) (qB a n)), (13, uV (qB a n)), (14, uV k)] [(2, some (95, (g8 a n k)))] 3 ⟨rfl, zo, (b9 .i64 (kC a n) (k * 2) 2 eM), rfl⟩ ?_
  refine kT [.no, .no] True [(5, sV .i64 (kC b m) (qB b m)), (8, .e (.c (.fn 157 [(2, 0)]))), (12, sV .i64 (kC a n) (qB a n)), (13, uV (qB a n)), (14, uV k)] trivial ?_
  rcases kb3 (coB (kC b m) (ka1 (kC a n) (k * 2) 0) (ka1 (kC a n) ((k * 2) + 1) 0)) with hx6 | hx6
  ·refine kK [.no, .no, .call [2] (bV true) [(0, some (95, (g8 a n k)))] 1 [] none, .no] (Fun 158 [.c (.d (dl (kC b m) (qB b m))), .c (.fn 157 [(0, 0)])] (kH [(0, some (95, (g8 a n k)))]) 1 (bV true) (kH [(0, some (95, (g8 a n k)))]) 1) [(5, sV .i64 (kC b m) (qB b m)), (12, sV .i64 (kC a n) (qB a n)), (13, uV (qB a n)), (14, uV k), (22, bV false)] [] 3 (by have h0 := (oG (kC b m) (qB b m) (ka1 (kC a n) (k * 2) 0) (ka1 (kC a n) ((k * 2) + 1) 0) jY jY); rw [hx6] at h0; exact h0) ?_
   refine yA ?_
   refine yT [.w, .no] ((-9223372036854775808) ≤ ((k : Int) + 1) ∧ ((k : Int) + 1) ≤ 9223372036854775807) [(5, sV .i64 (kC b m) (qB b m)), (12, sV .i64 (kC a n) (qB a n)), (13, uV (qB a n)), (14, iV (↑k + 1))] ⟨by omega, by omega⟩ ?_
   exact qE ⟨((k + 1) : Nat), ⟨v7, (fun j hj => (Nat.lt_succ_iff_lt_or_eq.1 hj).elim (hq j) (fun e9 => by subst e9; assumption))⟩⟩ [] (P := (kN (dI .i64 (kC b m))) ∧ (kJ (qB b m)) ∧ (kN (dI .i64 (kC a n))) ∧ (kJ (qB a n)) ∧ (kS (qB a n : Int)) ∧ (((((k + 1) : Nat) : Int) : Int) = ((k : Int) + 1))) zk ⟨rfl, rfl, rfl, rfl, rfl, cN⟩ (show qB a n - (k + 1) < qB a n - k from eL)
  ·refine kK [.no, .no, .call [2] (bV false) [(0, some (95, (g8 a n k)))] 1 [] none, .no] (Fun 158 [.c (.d (dl (kC b m) (qB b m))), .c (.fn 157 [(0, 0)])] (kH [(0, some (95, (g8 a n k)))]) 1 (bV false) (kH [(0, some (95, (g8 a n k)))]) 1) [(5, sV .i64 (kC b m) (qB b m)), (12, sV .i64 (kC a n) (qB a n)), (13, uV (qB a n)), (14, uV k), (22, bV true)] [] 3 (by have h0 := (oG (kC b m) (qB b m) (ka1 (kC a n) (k * 2) 0) (ka1 (kC a n) ((k * 2) + 1) 0) jY jY); rw [hx6] at h0; exact h0) ?_
   refine zt ?_
   refine kT [.no] True [(4, bV false)] trivial ?_
   refine AW.ret ?_
   exact kB (.inr rfl) [] (P := ((x4 (kC a n) (kC b m)) = false)) zk (by first | exact v0z (qD ha) (fun j hj => hq j zo) | exact v10 (k := k) (qD ha) zo (by assumption))
 ·refine kK [.b false] (¬ ((k : Int) < (qB a n : Int))) [(5, sV .i64 (kC b m) (qB b m)), (12, sV .i64 (kC a n) (qB a n)), (13, uV (qB a n)), (14, uV k), (15, bV false)] [] 2 zo ?_
  refine AW.seq ?_
  refine zf ?_
  refine AW.exit ?_
  refine kK [.no] True [(4, bV true)] [] 2 trivial ?_
  refine AW.ret ?_
  exact kB (.inr rfl) [] (P := ((x4 (kC a n) (kC b m)) = true)) zk (by first | exact v0z (qD ha) (fun j hj => hq j zo) | exact v10 (k := k) (qD ha) zo (by assumption))
theorem wB (a b : Int) (ha : -9223372036854775808 ≤ a ∧ a ≤ 9223372036854775807) (hb : -9223372036854775808 ≤ b ∧ b ≤ 9223372036854775807) : Fun 148 [iE a, iE b] (kH []) 0 (yM (D.lit (.int .u64 (aT a b)))) (kH []) 0 := by
 refine Fun.mk (n := 18) Tryz.func148 rfl rfl (ka4 rfl) ?_
 intro cx hcx
 refine kK [.no] True [(0, iV a), (1, iV b)] [] 0 trivial ?_
 refine AW.seq ?_
 by_cases hx1 : (b < a)
 ·refine kT [.no, .no, .b true] ((b < a)) [(0, iV a), (1, iV b), (7, bV true)] zo ?_
  refine zt ?_
  refine kT [.no, .i (a % 18446744073709551616), .no, .i (b % 18446744073709551616), .i (a - b), .no] ((IntKind.u64.wrap (a : Int) = (a % 18446744073709551616)) ∧ (IntKind.u64.wrap (b : Int) = (b % 18446744073709551616)) ∧ (IntKind.u64.wrap (((a % 18446744073709551616) - (b % 18446744073709551616)) : Int) = (a - b))) [(4, yM (D.lit (.int .u64 (a - b))))] ⟨(d5 _), (d5 _), (by rw [d5]; omega)⟩ ?_
  refine AW.ret ?_
  exact kB (.inr rfl) [] (P := (((aT a b) : Int) = (a - b))) zk (by unfold aT; split <;> omega)
 ·refine kT [.no, .no, .b false] (¬ (b < a)) [(0, iV a), (1, iV b), (7, bV false)] zo ?_
  refine yA ?_
  refine kT [.no, .i (b % 18446744073709551616), .no, .i (a % 18446744073709551616), .i (b - a), .no] ((IntKind.u64.wrap (b : Int) = (b % 18446744073709551616)) ∧ (IntKind.u64.wrap (a : Int) = (a % 18446744073709551616)) ∧ (IntKind.u64.wrap (((b % 18446744073709551616) - (a % 18446744073709551616)) : Int) = (b - a))) [(4, yM (D.lit (.int .u64 (b - a))))] ⟨(d5 _), (d5 _), (by rw [d5]; omega)⟩ ?_
  refine AW.ret ?_
  exact kB (.inr rfl) [] (P := (((aT a b) : Int) = (b - a))) zk (by unfold aT; split <;> omega)
theorem u0c (l : List Int) (n : Nat) (z : Int) (hl : ka0 l = n * 2) (hb : n ≤ 9223372036854775807) (hz : -9223372036854775808 ≤ z ∧ z ≤ 9223372036854775807) : Fun 114 [.agg [.d (D.sl (dI .i64 l) n)], iE z] (kH []) 0 (.tup [iE (vJ z (kC l n)), .c (.d (D.lit (.bool (nrF z (kC l n)))))]) (kH []) 0 := by
 refine Fun.mk (n := 40) Tryz.func114 rfl rfl (ka4 rfl) ?_
 intro cx hcx
 refine kK [.no, .no, .no] True [(1, iV z), (2, rV 0 0)] [(0, some (60, .ds [dl l n]))] 1 trivial ?_
 refine kT [.no, .no] True [(1, iV z), (2, rV 0 0), (6, iV 0), (7, bV false)] trivial ?_
 refine AW.seq ?_
 have hx1 : ((ka0 (kC l n)) = ((qB l n) * 2)) := qD (zo)
 have hx2 : (((qB l n) ≤ 64) ∧ ((qB l n) ≤ n)) := lU
 refine kK [.no, .call [] (sV .i64 (kC l n) (qB l n)) [] 0 [] none, .no, .no] _ [(1, iV z), (6, iV 0), (7, bV false), (12, sV .i64 (kC l n) (qB l n)), (13, uV (qB l n)), (14, iV 0)] [] 1 (gH l n zo zo) ?_
 refine AW.block ?_
 refine qH 0 hcx (fun (x : {x : Nat × Int × Bool // match x with | (i, y, f) => (i ≤ qB l n ∧ -9223372036854775808 ≤ y ∧ y ≤ 9223372036854775807) ∧ (NR z (kC l n) i y f)}) => match x with | ⟨(i, y, f), _⟩ => (⟨[(1, iV z), (6, iV y), (7, yM (D.lit (.bool (f)))), (12, sV .i64 (kC l n) (qB l n)), (13, uV (qB l n)), (14, uV i)], [], 1⟩ : ES)) (fun x => match x with | ⟨(i, y, f), _⟩ => qB l n - i) ⟨((0 : Nat), (0 : Int), (false : Bool)), ⟨v7, (NR.zero _ _)⟩⟩ [] (P := (kS z) ∧ (kS 0) ∧ ((false) = false) ∧ (kN (dI .i64 (kC l n))) ∧ (kJ (qB l n)) ∧ (kS (qB l n : Int)) ∧ (kS 0)) zk ⟨rfl, rfl, (by first | rfl | assumption | simp), rfl, rfl, rfl, rfl⟩ ?_
 rintro ⟨⟨i, y, f⟩, hinv0⟩
 obtain ⟨hi, hN⟩ : (i ≤ qB l n ∧ -9223372036854775808 ≤ y ∧ y ≤ 9223372036854775807) ∧ (NR z (kC l n) i y f) := hinv0
 refine uL (l := [(1, iV z), (6, iV y), (7, yM (D.lit (.bool (f)))), (12, sV .i64 (kC l n) (qB l n)), (13, uV (qB l n)), (14, uV i)]) (g := []) (nx := 1) rfl rfl rfl ?_
 by_cases hx3 : (((i : Nat) : Int) < (((qB l n) : Nat) : Int))
 ·have hx4 : 0 ≤ ka1 (kC l n) (i * 2) 0 ∧ ka1 (kC l n) (i * 2) 0 ≤ ka1 (kC l n) (i * 2 + 1) 0 ∧ ka1 (kC l n) (i * 2 + 1) 0 ≤ 2147483647 := u9c hl i zo
  refine kK [.b true] (((i : Int) < (qB l n : Int))) [(1, iV z), (6, iV y), (7, yM (D.lit (.bool (f)))), (12, sV .i64 (kC l n) (qB l n)), (13, uV (qB l n)), (14, uV i), (15, bV true)] [] 1 zo ?_
  refine AW.seq ?_
  refine vR ?_
  refine AW.seq ?_
  refine AW.block ?_
  refine kK [.n i, .ds [iD (ka1 (kC l n) (i * 2) 0), iD (ka1 (kC l n) ((i * 2) + 1) 0)], .no, .no] ((kS (i : Int)) ∧ (i < (qB l n)) ∧ (ka5 2 (ka3 (i * 2) (dI .i64 (kC l n))) = [iD (ka1 (kC l n) (i * 2) 0), iD (ka1 (kC l n) ((i * 2) + 1) 0)]) ∧ (([iD (ka1 (kC l n) (i * 2) 0), iD (ka1 (kC l n) ((i * 2) + 1) 0)] : List D).length = 2)) [(1, iV z), (6, iV y), (7, yM (D.lit (.bool (f)))), (9, rV 1 0), (12, sV .i64 (kC l n) (qB l n)), (13, uV (qB l n)), (14, uV i)] [(1, some (95, .ds [iD (ka1 (kC l n) (i * 2) 0), iD (ka1 (kC l n) ((i * 2) + 1) 0)]))] 2 ⟨rfl, zo, (b9 .i64 (kC l n) (i * 2) 2 eM), rfl⟩ ?_
  refine kK (qN 8 []) True [(1, iV z), (6, iV y), (7, yM (D.lit (.bool (f)))), (10, iV (min (max z (ka1 (kC l n) (i * 2) 0)) (ka1 (kC l n) ((i * 2) + 1) 0))), (12, sV .i64 (kC l n) (qB l n)), (13, uV (qB l n)), (14, uV i)] [] 2 trivial ?_
  rcases kb3 (f) with hx5 | hx5
  ·subst hx5
   by_cases hx8 : ((aT (min (max z (ka1 (kC l n) (i * 2) 0)) (ka1 (kC l n) ((i * 2) + 1) 0)) z) < (aT y z))
   ·have hx9 : ((0 : Int) ≤ (aT (min (max z (ka1 (kC l n) (i * 2) 0)) (ka1 (kC l n) ((i * 2) + 1) 0)) z)) := tO
    have hx10 : ((0 : Int) ≤ (aT y z)) := tO
    refine kK (qN 5 [.call [] (yM (D.lit (.int .u64 (aT (min (max z (ka1 (kC l n) (i * 2) 0)) (ka1 (kC l n) ((i * 2) + 1) 0)) z)))) [] 0 [] none, .no, .no, .call [] (yM (D.lit (.int .u64 (aT y z)))) [] 0 [] none, .b true, .no]) ((_) ∧ (_) ∧ (((aT (min (max z (ka1 (kC l n) (i * 2) 0)) (ka1 (kC l n) ((i * 2) + 1) 0)) z) < (aT y z)))) [(1, iV z), (6, iV y), (7, bV true), (10, iV (min (max z (ka1 (kC l n) (i * 2) 0)) (ka1 (kC l n) ((i * 2) + 1) 0))), (12, sV .i64 (kC l n) (qB l n)), (13, uV (qB l n)), (14, uV i), (35, bV true)] [] 2 ⟨(wB (min (max z (ka1 (kC l n) (i * 2) 0)) (ka1 (kC l n) ((i * 2) + 1) 0)) z jY zo), (wB y z zo zo), zo⟩ ?_
    refine zt ?_
    refine yT [.no, .no, .no] True [(1, iV z), (6, iV (min (max z (ka1 (kC l n) (i * 2) 0)) (ka1 (kC l n) ((i * 2) + 1) 0))), (7, bV true), (12, sV .i64 (kC l n) (qB l n)), (13, uV (qB l n)), (14, uV i)] trivial ?_
    refine yT [.w, .no] ((-9223372036854775808) ≤ ((i : Int) + 1) ∧ ((i : Int) + 1) ≤ 9223372036854775807) [(1, iV z), (6, iV (min (max z (ka1 (kC l n) (i * 2) 0)) (ka1 (kC l n) ((i * 2) + 1) 0))), (7, bV true), (12, sV .i64 (kC l n) (qB l n)), (13, uV (qB l n)), (14, iV (↑i + 1))] ⟨by omega, by omega⟩ ?_
    exact qE ⟨(((i + 1) : Nat), ((min (max z (ka1 (kC l n) (i * 2) 0)) (ka1 (kC l n) ((i * 2) + 1) 0)) : Int), (true : Bool)), ⟨v7, (by first | exact hN.first (qD hl) zo (by show _ = max _ (min _ z); first | (simp only; done) | (simp only; omega) | omega) | exact hN.near (qD hl) zo (by show _ = max _ (min _ z); first | (simp only; done) | (simp only; omega) | omega) zo | exact hN.far (qD hl) zo (by assumption) (by show _ = max _ (min _ z); first | (simp only; done) | (simp only; omega) | omega))⟩⟩ [] (P := (kS z) ∧ (kS (min (max z (ka1 (kC l n) (i * 2) 0)) (ka1 (kC l n) ((i * 2) + 1) 0))) ∧ ((true) = true) ∧ (kN (dI .i64 (kC l n))) ∧ (kJ (qB l n)) ∧ (kS (qB l n : Int)) ∧ (((((i + 1) : Nat) : Int) : Int) = ((i : Int) + 1))) zk ⟨rfl, rfl, (by first | rfl | assumption | simp), rfl, rfl, rfl, cN⟩ (show qB l n - (i + 1) < qB l n - i from eL)
   ·have hx11 : ((0 : Int) ≤ (aT (min (max z (ka1 (kC l n) (i * 2) 0)) (ka1 (kC l n) ((i * 2) + 1) 0)) z)) := tO
    have hx12 : ((0 : Int) ≤ (aT y z)) := tO
    refine kK (qN 5 [.call [] (yM (D.lit (.int .u64 (aT (min (max z (ka1 (kC l n) (i * 2) 0)) (ka1 (kC l n) ((i * 2) + 1) 0)) z)))) [] 0 [] none, .no, .no, .call [] (yM (D.lit (.int .u64 (aT y z)))) [] 0 [] none, .b false, .no]) ((_) ∧ (_) ∧ (¬ ((aT (min (max z (ka1 (kC l n) (i * 2) 0)) (ka1 (kC l n) ((i * 2) + 1) 0)) z) < (aT y z)))) [(1, iV z), (6, iV y), (7, bV true), (10, iV (min (max z (ka1 (kC l n) (i * 2) 0)) (ka1 (kC l n) ((i * 2) + 1) 0))), (12, sV .i64 (kC l n) (qB l n)), (13, uV (qB l n)), (14, uV i), (35, bV false)] [] 2 ⟨(wB (min (max z (ka1 (kC l n) (i * 2) 0)) (ka1 (kC l n) ((i * 2) + 1) 0)) z jY zo), (wB y z zo zo), zo⟩ ?_
    refine yA ?_
    refine yT [.w, .no] ((-9223372036854775808) ≤ ((i : Int) + 1) ∧ ((i : Int) + 1) ≤ 9223372036854775807) [(1, iV z), (6, iV y), (7, bV true), (12, sV .i64 (kC l n) (qB l n)), (13, uV (qB l n)), (14, iV (↑i + 1))] ⟨by omega, by omega⟩ ?_
    exact qE ⟨(((i + 1) : Nat), (y : Int), (true : Bool)), ⟨v7, (by first | exact hN.first (qD hl) zo (by show _ = max _ (min _ z); first | (simp only; done) | (simp only; omega) | omega) | exact hN.near (qD hl) zo (by show _ = max _ (min _ z); first | (simp only; done) | (simp only; omega) | omega) zo | exact hN.far (qD hl) zo (by assumption) (by show _ = max _ (min _ z); first | (simp only; done) | (simp only; omega) | omega))⟩⟩ [] (P := (kS z) ∧ (kS y) ∧ ((true) = true) ∧ (kN (dI .i64 (kC l n))) ∧ (kJ (qB l n)) ∧ (kS (qB l n : Int)) ∧ (((((i + 1) : Nat) : Int) : Int) = ((i : Int) + 1))) zk ⟨rfl, rfl, (by first | rfl | assumption | simp), rfl, rfl, rfl, cN⟩ (show qB l n - (i + 1) < qB l n - i from eL)
  ·subst hx5
   refine kK (qN 4 []) True [(1, iV z), (6, iV y), (7, bV false), (10, iV (min (max z (ka1 (kC l n) (i * 2) 0)) (ka1 (kC l n) ((i * 2) + 1) 0))), (12, sV .i64 (kC l n) (qB l n)), (13, uV (qB l n)), (14, uV i), (35, bV true)] [] 2 trivial ?_
   refine zt ?_
   refine yT [.no, .no, .no] True [(1, iV z), (6, iV (min (max z (ka1 (kC l n) (i * 2) 0)) (ka1 (kC l n) ((i * 2) + 1) 0))), (7, bV true), (12, sV .i64 (kC l n) (qB l n)), (13, uV (qB l n)), (14, uV i)] trivial ?_
   refine yT [.w, .no] ((-9223372036854775808) ≤ ((i : Int) + 1) ∧ ((i : Int) + 1) ≤ 9223372036854775807) [(1, iV z), (6, iV (min (max z (ka1 (kC l n) (i * 2) 0)) (ka1 (kC l n) ((i * 2) + 1) 0))), (7, bV true), (12, sV .i64 (kC l n) (qB l n)), (13, uV (qB l n)), (14, iV (↑i + 1))] ⟨by omega, by omega⟩ ?_
   exact qE ⟨(((i + 1) : Nat), ((min (max z (ka1 (kC l n) (i * 2) 0)) (ka1 (kC l n) ((i * 2) + 1) 0)) : Int), (true : Bool)), ⟨v7, (by first | exact hN.first (qD hl) zo (by show _ = max _ (min _ z); first | (simp only; done) | (simp only; omega) | omega) | exact hN.near (qD hl) zo (by show _ = max _ (min _ z); first | (simp only; done) | (simp only; omega) | omega) zo | exact hN.far (qD hl) zo (by assumption) (by show _ = max _ (min _ z); first | (simp only; done) | (simp only; omega) | omega))⟩⟩ [] (P := (kS z) ∧ (kS (min (max z (ka1 (kC l n) (i * 2) 0)) (ka1 (kC l n) ((i * 2) + 1) 0))) ∧ ((true) = true) ∧ (kN (dI .i64 (kC l n))) ∧ (kJ (qB l n)) ∧ (kS (qB l n : Int)) ∧ (((((i + 1) : Nat) : Int) : Int) = ((i : Int) + 1))) zk ⟨rfl, rfl, (by first | rfl | assumption | simp), rfl, rfl, rfl, cN⟩ (show qB l n - (i + 1) < qB l n - i from eL)
 ·refine kK [.b false] (¬ ((i : Int) < (qB l n : Int))) [(1, iV z), (6, iV y), (7, yM (D.lit (.bool (f)))), (12, sV .i64 (kC l n) (qB l n)), (13, uV (qB l n)), (14, uV i), (15, bV false)] [] 1 zo ?_
  refine AW.seq ?_
  refine zf ?_
  refine AW.exit ?_
  refine kK (qN 4 []) True [(4, iV y), (5, yM (D.lit (.bool (f))))] [] 1 trivial ?_
  obtain ⟨hz1, hz2⟩ := hN.fin (qD hl) zo
  refine AW.ret ?_
  exact kB (.inr rfl) [] (P := (((vJ z (kC l n)) : Int) = y) ∧ ((nrF z (kC l n)) = (f))) zk ⟨rT, hz2⟩
end Go.Proofs.YtbicifcgghmhaaaGreat
