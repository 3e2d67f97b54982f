/- Sets of integers: C. No statement is proved here. -/
import Derived.Test.YtcfmjpnffembpaaGreatZL09B
namespace Go.Proofs.YtcfmjpnffembpaaGreat
open Go.ChangeShapes Go.WideShapes Go.ChangeAt Go.RowKit
open Bool renaming eq_false_or_eq_true → ka6
open List renaming drop → ka3, drop_zero → kd5, getD → ka1, length → ka0, length_append → ka9, length_cons → kb0, length_drop → kb5, length_map → kc0, length_nil → kb3, length_replicate → kb4, length_reverse → kb9, length_set → kc1, length_take → kb2, take → ka5
open Nat renaming le_of_ble_eq_true → ka4, mul_one → kc5, not_lt_zero → kd1
set_option linter.unusedVariables false
set_option linter.unusedSimpArgs false
set_option maxHeartbeats 4000000
set_option maxRecDepth 100000
theorem bP {p : Prop} (h : p := by (rw [List.drop_drop]; exact uI _ _ _ (by (simp only [y9, uA, ka9, kb0, kb3, kb2, kb5, kb4, kc1, kc0, kb9, kc5] <;> omega)))) : p := h
theorem eO {p : Prop} (h : p := by (simp only [y9, uA, ka9, kb0, kb3, kb2, kb5, kb4, kc1, kc0, kb9, kc5] <;> omega)) : p := h
theorem pI {p : Prop} (h : p := by simp only [sD, lW, Nat.zero_mul, Nat.one_mul, kd5]) : p := h
theorem xP {p : Prop} (h : p := by (simp only [y9, ka9, kb0, kb3] <;> omega)) : p := h
theorem pJ {p : Prop} (h : p := by rw [kd5, List.take_of_length_le (by (simp only [y9, uA, ka9, kb0, kb3, kb2, kb5, kb4, kc1, kc0, kb9, kc5] <;> omega))]) : p := h
abbrev u1e (i : Nat) (a : List Int) (n : Nat) (j : Nat) (b : List Int) (m : Nat) : BC := .ds [iD (max (ka1 (ka3 (i * 2) (kB a n)) 0 0) (ka1 (ka3 (j * 2) (kB b m)) 0 0)), iD (min (ka1 (ka3 (i * 2) (kB a n)) 1 0) (ka1 (ka3 (j * 2) (kB b m)) 1 0))]
theorem f7 (a b : List Int) (n m : Nat) (ha : ka0 a = n * 2) (hb : ka0 b = m * 2) (h3 : n ≤ 9223372036854775807) (h4 : m ≤ 9223372036854775807) : Fun 117 [.agg [.d (D.sl (dI .i64 a) n)], .agg [.d (D.sl (dI .i64 b) m)]] (kE []) 0 (.e (.agg [.d (D.sl (dI .i64 (uM (kB a n) (kB b m))) (qP (kB a n) (kB b m)))])) (kE []) 0 := by
 refine Fun.mk (n := 69) Tryz.func117 rfl rfl (ka4 rfl) ?_
 intro cx hcx
 refine kI [.no, .no, .no] True [(2, rV 0 0), (3, rV 1 0), (4, rV 2 0)] [(0, some (56, .ds [dl a n])), (1, some (56, .ds [dl b m])), (2, some (56, .ds [qR]))] 3 trivial ?_
 refine kN [.no] True [(2, rV 0 0), (3, rV 1 0), (4, rV 2 0), (5, nV)] trivial ?_
 have hx1 : ((ka0 (kB a n)) = ((kK a n) * 2)) := k8 (zo)
 have hx2 : (((kK a n) ≤ 64) ∧ ((kK a n) ≤ n)) := bD
 have hx3 : ((ka0 (kB b m)) = ((kK b m) * 2)) := k8 (zo)
 have hx4 : (((kK b m) ≤ 64) ∧ ((kK b m) ≤ m)) := bD
 refine kI [.no, .call [] (sV .i64 (kB a n) (kK a n)) [] 0 [] none, .no, .call [] (sV .i64 (kB b m) (kK b m)) [] 0 [] none, .no, .no] ((_) ∧ (_)) [(4, rV 2 0), (5, nV), (6, sV .i64 (kB a n) (kK a n)), (7, sV .i64 (kB b m) (kK b m))] [(2, some (56, .ds [qR]))] 3 ⟨(f5 a n zo zo), (f5 b m zo zo)⟩ ?_
 refine AW.seq ?_
 refine AW.block ?_
 refine AW.adoptS 5 2 77 rfl ?_
 refine kU 0 hcx (fun (x : {x : Nat × Nat × Nat × List Int // match x with | (i, j, k, o) => (i ≤ kK a n ∧ j ≤ kK b m ∧ k ≤ 64) ∧ (IX (kB a n) (kB b m) i j k o) ∧ (ka0 o = k * 2)}) => match x with | ⟨(i, j, k, o), _⟩ => (⟨[(4, rV 2 0), (5, oV 4 0 k 2), (6, sV .i64 (ka3 (i * 2) (kB a n)) ((kK a n) - i)), (7, sV .i64 (ka3 (j * 2) (kB b m)) ((kK b m) - j))], [(2, some (56, .ds [qR])), (4, some (77, .ds (dI .i64 o)))], 5⟩ : ES)) (fun x => match x with | ⟨(i, j, k, o), _⟩ => (kK a n - i) + (kK b m - j)) ⟨((0 : Nat), (0 : Nat), (0 : Nat), (([] : List Int) : List Int)), ⟨zo, (IX.zero _ _), rfl⟩⟩ [(4, 3)] (P := (kG 0) ∧ (kG 0) ∧ (kG 0) ∧ (((dI .i64 (ka3 0 (kB a n))) : List D) = (dI .i64 (kB a n))) ∧ ((((kK a n) - 0) : Nat) = (kK a n)) ∧ (((dI .i64 (ka3 0 (kB b m))) : List D) = (dI .i64 (kB b m))) ∧ ((((kK b m) - 0) : Nat) = (kK b m)) ∧ (kJ [qR]) ∧ (((dI .i64 ([] : List Int)) : List D) = ([] : List D))) zk ⟨rfl, rfl, rfl, (by rfl), (by rfl), (by rfl), (by rfl), rfl, (by rfl)⟩ ?_
 rintro ⟨⟨i, j, k, o⟩, hinv0⟩
 obtain ⟨hi, hX, ho⟩ : (i ≤ kK a n ∧ j ≤ kK b m ∧ k ≤ 64) ∧ (IX (kB a n) (kB b m) i j k o) ∧ (ka0 o = k * 2) := hinv0
 refine qN (l := [(4, rV 2 0), (5, oV 4 0 k 2), (6, sV .i64 (ka3 (i * 2) (kB a n)) ((kK a n) - i)), (7, sV .i64 (ka3 (j * 2) (kB b m)) ((kK b m) - j))]) (g := [(2, some (56, .ds [qR])), (4, some (77, .ds (dI .i64 o)))]) (nx := 5) rfl rfl rfl ?_
 refine AW.seq ?_
 by_cases hx5 : ((0 : Int) < ((((kK a n) - i) : Nat) : Int))
 ·by_cases hx6 : ((0 : Int) < ((((kK b m) - j) : Nat) : Int))
  ·by_cases hx7 : (((k : Nat) : Int) < 64)
   ·refine kI [.no, .no, .b true, .no, .no, .no, .b true, .no, .no, .no, .no, .b true, .no] ((((0 : Int) < ((((kK a n) - i) : Nat) : Int))) ∧ (((0 : Int) < ((((kK b m) - j) : Nat) : Int))) ∧ (((k : Int) < 64))) [(4, rV 2 0), (5, oV 4 0 k 2), (6, sV .i64 (ka3 (i * 2) (kB a n)) ((kK a n) - i)), (7, sV .i64 (ka3 (j * 2) (kB b m)) ((kK b m) - j)), (25, bV true)] [(2, some (56, .ds [qR])), (4, some (77, .ds (dI .i64 o)))] 5 ⟨zo, zo, zo⟩ ?_
    refine yW ?_
    refine AW.block ?_
    have hx8 : ka1 (ka3 (i * 2) (kB a n)) 0 0 = ka1 (kB a n) (i * 2) 0 := dJ
    have hx9 : ka1 (ka3 (i * 2) (kB a n)) 1 0 = ka1 (kB a n) (i * 2 + 1) 0 := dJ
    have hx10 : ka1 (ka3 (j * 2) (kB b m)) 0 0 = ka1 (kB b m) (j * 2) 0 := dJ
    have hx11 : ka1 (ka3 (j * 2) (kB b m)) 1 0 = ka1 (kB b m) (j * 2 + 1) 0 := dJ
    refine kI [.no, .n 0, .no, .d (D.lit (.int .i64 (ka1 (ka3 (i * 2) (kB a n)) 0 0))), .no, .n 0, .no, .d (D.lit (.int .i64 (ka1 (ka3 (j * 2) (kB b m)) 0 0))), .no, .no, .n 0, .no, .d (D.lit (.int .i64 (ka1 (ka3 (i * 2) (kB a n)) 1 0))), .no, .n 0, .no, .d (D.lit (.int .i64 (ka1 (ka3 (j * 2) (kB b m)) 1 0))), .no, .no, .no, .no] ((kM 0) ∧ ((0 : Nat) < ((kK a n) - i)) ∧ ((ka3 0 (ka3 0 (dI .i64 (ka3 (i * 2) (kB a n)))))[0]? = some (D.lit (.int .i64 (ka1 (ka3 (i * 2) (kB a n)) 0 0)))) ∧ (kM 0) ∧ ((0 : Nat) < ((kK b m) - j)) ∧ ((ka3 0 (ka3 0 (dI .i64 (ka3 (j * 2) (kB b m)))))[0]? = some (D.lit (.int .i64 (ka1 (ka3 (j * 2) (kB b m)) 0 0)))) ∧ (kM 0) ∧ ((0 : Nat) < ((kK a n) - i)) ∧ ((ka3 1 (ka3 0 (dI .i64 (ka3 (i * 2) (kB a n)))))[0]? = some (D.lit (.int .i64 (ka1 (ka3 (i * 2) (kB a n)) 1 0)))) ∧ (kM 0) ∧ ((0 : Nat) < ((kK b m) - j)) ∧ ((ka3 1 (ka3 0 (dI .i64 (ka3 (j * 2) (kB b m)))))[0]? = some (D.lit (.int .i64 (ka1 (ka3 (j * 2) (kB b m)) 1 0))))) [(4, rV 2 0), (5, oV 4 0 k 2), (6, sV .i64 (ka3 (i * 2) (kB a n)) ((kK a n) - i)), (7, sV .i64 (ka3 (j * 2) (kB b m)) ((kK b m) - j)), (8, rV 5 0)] [(2, some (56, .ds [qR])), (4, some (77, .ds (dI .i64 o))), (5, some (77, (u1e i a n j b m)))] 6 ⟨rfl, zo, bP, rfl, zo, bP, rfl, zo, bP, rfl, zo, bP⟩ ?_
    refine AW.seq ?_
    by_cases hx12 : ((max (ka1 (ka3 (i * 2) (kB a n)) 0 0) (ka1 (ka3 (j * 2) (kB b m)) 0 0)) ≤ (min (ka1 (ka3 (i * 2) (kB a n)) 1 0) (ka1 (ka3 (j * 2) (kB b m)) 1 0)))
    ·refine kN (kT 4 [.b true]) (((max (ka1 (ka3 (i * 2) (kB a n)) 0 0) (ka1 (ka3 (j * 2) (kB b m)) 0 0)) ≤ (min (ka1 (ka3 (i * 2) (kB a n)) 1 0) (ka1 (ka3 (j * 2) (kB b m)) 1 0)))) [(4, rV 2 0), (5, oV 4 0 k 2), (6, sV .i64 (ka3 (i * 2) (kB a n)) ((kK a n) - i)), (7, sV .i64 (ka3 (j * 2) (kB b m)) ((kK b m) - j)), (8, rV 5 0), (49, bV true)] zo ?_
     refine zt ?_
     refine aD [.no, .no, .no, .ap none (k + 1) (dI .i64 (o ++ ([(max (ka1 (ka3 (i * 2) (kB a n)) 0 0) (ka1 (ka3 (j * 2) (kB b m)) 0 0)), (min (ka1 (ka3 (i * 2) (kB a n)) 1 0) (ka1 (ka3 (j * 2) (kB b m)) 1 0))] : List Int))), .no] (([iD (max (ka1 (ka3 (i * 2) (kB a n)) 0 0) (ka1 (ka3 (j * 2) (kB b m)) 0 0)), iD (min (ka1 (ka3 (i * 2) (kB a n)) 1 0) (ka1 (ka3 (j * 2) (kB b m)) 1 0))].length = 1 * 2) ∧ (((dI .i64 o) : List D).length = k * 2) ∧ ((k + 1) * 16 ≤ 140737488355328) ∧ (k + 1 = (k + 1)) ∧ (((dI .i64 o) : List D) ++ [iD (max (ka1 (ka3 (i * 2) (kB a n)) 0 0) (ka1 (ka3 (j * 2) (kB b m)) 0 0)), iD (min (ka1 (ka3 (i * 2) (kB a n)) 1 0) (ka1 (ka3 (j * 2) (kB b m)) 1 0))] = (dI .i64 (o ++ ([(max (ka1 (ka3 (i * 2) (kB a n)) 0 0) (ka1 (ka3 (j * 2) (kB b m)) 0 0)), (min (ka1 (ka3 (i * 2) (kB a n)) 1 0) (ka1 (ka3 (j * 2) (kB b m)) 1 0))] : List Int))))) [(4, rV 2 0), (5, oV 7 0 (k + 1) 2), (6, sV .i64 (ka3 (i * 2) (kB a n)) ((kK a n) - i)), (7, sV .i64 (ka3 (j * 2) (kB b m)) ((kK b m) - j))] [(2, some (56, .ds [qR])), (7, some (77, .ds (dI .i64 (o ++ ([(max (ka1 (ka3 (i * 2) (kB a n)) 0 0) (ka1 (ka3 (j * 2) (kB b m)) 0 0)), (min (ka1 (ka3 (i * 2) (kB a n)) 1 0) (ka1 (ka3 (j * 2) (kB b m)) 1 0))] : List Int)))))] 8 ⟨eO, eO, zo, zo, (aN .i64 o ([(max (ka1 (ka3 (i * 2) (kB a n)) 0 0) (ka1 (ka3 (j * 2) (kB b m)) 0 0)), (min (ka1 (ka3 (i * 2) (kB a n)) 1 0) (ka1 (ka3 (j * 2) (kB b m)) 1 0))] : List Int))⟩ ?_
     by_cases hx13 : ((ka1 (ka3 (i * 2) (kB a n)) 1 0) < (ka1 (ka3 (j * 2) (kB b m)) 1 0))
     ·refine kN [.no, .n 0, .no, .d (D.lit (.int .i64 (ka1 (ka3 (i * 2) (kB a n)) 1 0))), .no, .n 0, .no, .d (D.lit (.int .i64 (ka1 (ka3 (j * 2) (kB b m)) 1 0))), .b true] ((kM 0) ∧ ((0 : Nat) < ((kK a n) - i)) ∧ ((ka3 1 (ka3 0 (dI .i64 (ka3 (i * 2) (kB a n)))))[0]? = some (D.lit (.int .i64 (ka1 (ka3 (i * 2) (kB a n)) 1 0)))) ∧ (kM 0) ∧ ((0 : Nat) < ((kK b m) - j)) ∧ ((ka3 1 (ka3 0 (dI .i64 (ka3 (j * 2) (kB b m)))))[0]? = some (D.lit (.int .i64 (ka1 (ka3 (j * 2) (kB b m)) 1 0)))) ∧ (((ka1 (ka3 (i * 2) (kB a n)) 1 0) < (ka1 (ka3 (j * 2) (kB b m)) 1 0)))) [(4, rV 2 0), (5, oV 7 0 (k + 1) 2), (6, sV .i64 (ka3 (i * 2) (kB a n)) ((kK a n) - i)), (7, sV .i64 (ka3 (j * 2) (kB b m)) ((kK b m) - j)), (62, bV true)] ⟨rfl, zo, bP, rfl, zo, bP, zo⟩ ?_
      refine zt ?_
      refine uJ [.no, .sls 1 ((kK a n) - i) (((kK a n) - i) - 1) (dI .i64 (ka5 ((((kK a n) - i) - 1) * 2) (ka3 2 (ka3 (i * 2) (kB a n))))), .no] ((kM 1) ∧ (((kK a n) - i) = ((kK a n) - i)) ∧ ((1 : Nat) ≤ ((kK a n) - i)) ∧ (((kK a n) - i) ≤ ((kK a n) - i)) ∧ (((kK a n) - i) - 1 = (((kK a n) - i) - 1)) ∧ (ka5 ((((kK a n) - i) - 1) * 2) (ka3 (1 * 2) (dI .i64 (ka3 (i * 2) (kB a n)))) = (dI .i64 (ka5 ((((kK a n) - i) - 1) * 2) (ka3 2 (ka3 (i * 2) (kB a n))))))) [(4, rV 2 0), (5, oV 7 0 (k + 1) 2), (6, sV .i64 (ka5 ((((kK a n) - i) - 1) * 2) (ka3 2 (ka3 (i * 2) (kB a n)))) (((kK a n) - i) - 1)), (7, sV .i64 (ka3 (j * 2) (kB b m)) ((kK b m) - j))] ⟨rfl, rfl, zo, zo, zo, pI⟩ ?_
      exact kX ⟨(((i + 1) : Nat), (j : Nat), ((k + 1) : Nat), ((o ++ ([(max (ka1 (ka3 (i * 2) (kB a n)) 0 0) (ka1 (ka3 (j * 2) (kB b m)) 0 0)), (min (ka1 (ka3 (i * 2) (kB a n)) 1 0) (ka1 (ka3 (j * 2) (kB b m)) 1 0))] : List Int)) : List Int)), ⟨zo, (by exact hX.ly (k8 ha) (k8 hb) (aI ha) (aI hb) zo zo zo zo zo zo), xP⟩⟩ [(4, 7)] (P := (kG 0) ∧ (kG 0) ∧ (kG (k + 1)) ∧ (((dI .i64 (ka3 ((i + 1) * 2) (kB a n))) : List D) = (dI .i64 (ka5 ((((kK a n) - i) - 1) * 2) (ka3 2 (ka3 (i * 2) (kB a n)))))) ∧ ((((kK a n) - (i + 1)) : Nat) = (((kK a n) - i) - 1)) ∧ (kJ (dI .i64 (ka3 (j * 2) (kB b m)))) ∧ (kG ((kK b m) - j)) ∧ (kJ [qR]) ∧ (kJ (dI .i64 (o ++ ([(max (ka1 (ka3 (i * 2) (kB a n)) 0 0) (ka1 (ka3 (j * 2) (kB b m)) 0 0)), (min (ka1 (ka3 (i * 2) (kB a n)) 1 0) (ka1 (ka3 (j * 2) (kB b m)) 1 0))] : List Int))))) zk ⟨rfl, rfl, rfl, (by exact dp1 (k8 ha)), (by rfl), rfl, rfl, rfl, rfl⟩ (show (kK a n - (i + 1)) + (kK b m - j) < (kK a n - i) + (kK b m - j) from zo)
     ·refine kN [.no, .n 0, .no, .d (D.lit (.int .i64 (ka1 (ka3 (i * 2) (kB a n)) 1 0))), .no, .n 0, .no, .d (D.lit (.int .i64 (ka1 (ka3 (j * 2) (kB b m)) 1 0))), .b false] ((kM 0) ∧ ((0 : Nat) < ((kK a n) - i)) ∧ ((ka3 1 (ka3 0 (dI .i64 (ka3 (i * 2) (kB a n)))))[0]? = some (D.lit (.int .i64 (ka1 (ka3 (i * 2) (kB a n)) 1 0)))) ∧ (kM 0) ∧ ((0 : Nat) < ((kK b m) - j)) ∧ ((ka3 1 (ka3 0 (dI .i64 (ka3 (j * 2) (kB b m)))))[0]? = some (D.lit (.int .i64 (ka1 (ka3 (j * 2) (kB b m)) 1 0)))) ∧ (¬ ((ka1 (ka3 (i * 2) (kB a n)) 1 0) < (ka1 (ka3 (j * 2) (kB b m)) 1 0)))) [(4, rV 2 0), (5, oV 7 0 (k + 1) 2), (6, sV .i64 (ka3 (i * 2) (kB a n)) ((kK a n) - i)), (7, sV .i64 (ka3 (j * 2) (kB b m)) ((kK b m) - j)), (62, bV false)] ⟨rfl, zo, bP, rfl, zo, bP, zo⟩ ?_
      refine zf ?_
      refine uJ [.no, .sls 1 ((kK b m) - j) (((kK b m) - j) - 1) (dI .i64 (ka5 ((((kK b m) - j) - 1) * 2) (ka3 2 (ka3 (j * 2) (kB b m))))), .no] ((kM 1) ∧ (((kK b m) - j) = ((kK b m) - j)) ∧ ((1 : Nat) ≤ ((kK b m) - j)) ∧ (((kK b m) - j) ≤ ((kK b m) - j)) ∧ (((kK b m) - j) - 1 = (((kK b m) - j) - 1)) ∧ (ka5 ((((kK b m) - j) - 1) * 2) (ka3 (1 * 2) (dI .i64 (ka3 (j * 2) (kB b m)))) = (dI .i64 (ka5 ((((kK b m) - j) - 1) * 2) (ka3 2 (ka3 (j * 2) (kB b m))))))) [(4, rV 2 0), (5, oV 7 0 (k + 1) 2), (6, sV .i64 (ka3 (i * 2) (kB a n)) ((kK a n) - i)), (7, sV .i64 (ka5 ((((kK b m) - j) - 1) * 2) (ka3 2 (ka3 (j * 2) (kB b m)))) (((kK b m) - j) - 1))] ⟨rfl, rfl, zo, zo, zo, pI⟩ ?_
      exact kX ⟨((i : Nat), ((j + 1) : Nat), ((k + 1) : Nat), ((o ++ ([(max (ka1 (ka3 (i * 2) (kB a n)) 0 0) (ka1 (ka3 (j * 2) (kB b m)) 0 0)), (min (ka1 (ka3 (i * 2) (kB a n)) 1 0) (ka1 (ka3 (j * 2) (kB b m)) 1 0))] : List Int)) : List Int)), ⟨zo, (by exact hX.ry (k8 ha) (k8 hb) (aI ha) (aI hb) zo zo zo zo zo zo), xP⟩⟩ [(4, 7)] (P := (kG 0) ∧ (kG 0) ∧ (kG (k + 1)) ∧ (kJ (dI .i64 (ka3 (i * 2) (kB a n)))) ∧ (kG ((kK a n) - i)) ∧ (((dI .i64 (ka3 ((j + 1) * 2) (kB b m))) : List D) = (dI .i64 (ka5 ((((kK b m) - j) - 1) * 2) (ka3 2 (ka3 (j * 2) (kB b m)))))) ∧ ((((kK b m) - (j + 1)) : Nat) = (((kK b m) - j) - 1)) ∧ (kJ [qR]) ∧ (kJ (dI .i64 (o ++ ([(max (ka1 (ka3 (i * 2) (kB a n)) 0 0) (ka1 (ka3 (j * 2) (kB b m)) 0 0)), (min (ka1 (ka3 (i * 2) (kB a n)) 1 0) (ka1 (ka3 (j * 2) (kB b m)) 1 0))] : List Int))))) zk ⟨rfl, rfl, rfl, rfl, rfl, (by exact dp1 (k8 hb)), (by rfl), rfl, rfl⟩ (show (kK a n - i) + (kK b m - (j + 1)) < (kK a n - i) + (kK b m - j) from zo)
    ·refine kN (kT 4 [.b false]) (¬ ((max (ka1 (ka3 (i * 2) (kB a n)) 0 0) (ka1 (ka3 (j * 2) (kB b m)) 0 0)) ≤ (min (ka1 (ka3 (i * 2) (kB a n)) 1 0) (ka1 (ka3 (j * 2) (kB b m)) 1 0)))) [(4, rV 2 0), (5, oV 4 0 k 2), (6, sV .i64 (ka3 (i * 2) (kB a n)) ((kK a n) - i)), (7, sV .i64 (ka3 (j * 2) (kB b m)) ((kK b m) - j)), (8, rV 5 0), (49, bV false)] zo ?_
     refine q8 ?_
     by_cases hx14 : ((ka1 (ka3 (i * 2) (kB a n)) 1 0) < (ka1 (ka3 (j * 2) (kB b m)) 1 0))
     ·refine kI [.no, .n 0, .no, .d (D.lit (.int .i64 (ka1 (ka3 (i * 2) (kB a n)) 1 0))), .no, .n 0, .no, .d (D.lit (.int .i64 (ka1 (ka3 (j * 2) (kB b m)) 1 0))), .b true] ((kM 0) ∧ ((0 : Nat) < ((kK a n) - i)) ∧ ((ka3 1 (ka3 0 (dI .i64 (ka3 (i * 2) (kB a n)))))[0]? = some (D.lit (.int .i64 (ka1 (ka3 (i * 2) (kB a n)) 1 0)))) ∧ (kM 0) ∧ ((0 : Nat) < ((kK b m) - j)) ∧ ((ka3 1 (ka3 0 (dI .i64 (ka3 (j * 2) (kB b m)))))[0]? = some (D.lit (.int .i64 (ka1 (ka3 (j * 2) (kB b m)) 1 0)))) ∧ (((ka1 (ka3 (i * 2) (kB a n)) 1 0) < (ka1 (ka3 (j * 2) (kB b m)) 1 0)))) [(4, rV 2 0), (5, oV 4 0 k 2), (6, sV .i64 (ka3 (i * 2) (kB a n)) ((kK a n) - i)), (7, sV .i64 (ka3 (j * 2) (kB b m)) ((kK b m) - j)), (62, bV true)] [(2, some (56, .ds [qR])), (4, some (77, .ds (dI .i64 o)))] 6 ⟨rfl, zo, bP, rfl, zo, bP, zo⟩ ?_
      refine zt ?_
      refine uJ [.no, .sls 1 ((kK a n) - i) (((kK a n) - i) - 1) (dI .i64 (ka5 ((((kK a n) - i) - 1) * 2) (ka3 2 (ka3 (i * 2) (kB a n))))), .no] ((kM 1) ∧ (((kK a n) - i) = ((kK a n) - i)) ∧ ((1 : Nat) ≤ ((kK a n) - i)) ∧ (((kK a n) - i) ≤ ((kK a n) - i)) ∧ (((kK a n) - i) - 1 = (((kK a n) - i) - 1)) ∧ (ka5 ((((kK a n) - i) - 1) * 2) (ka3 (1 * 2) (dI .i64 (ka3 (i * 2) (kB a n)))) = (dI .i64 (ka5 ((((kK a n) - i) - 1) * 2) (ka3 2 (ka3 (i * 2) (kB a n))))))) [(4, rV 2 0), (5, oV 4 0 k 2), (6, sV .i64 (ka5 ((((kK a n) - i) - 1) * 2) (ka3 2 (ka3 (i * 2) (kB a n)))) (((kK a n) - i) - 1)), (7, sV .i64 (ka3 (j * 2) (kB b m)) ((kK b m) - j))] ⟨rfl, rfl, zo, zo, zo, pI⟩ ?_
      exact kX ⟨(((i + 1) : Nat), (j : Nat), (k : Nat), (o : List Int)), ⟨zo, (by exact hX.ln (k8 ha) (k8 hb) (aI ha) (aI hb) zo zo zo zo), (by assumption)⟩⟩ [] (P := (kG 0) ∧ (kG 0) ∧ (kG k) ∧ (((dI .i64 (ka3 ((i + 1) * 2) (kB a n))) : List D) = (dI .i64 (ka5 ((((kK a n) - i) - 1) * 2) (ka3 2 (ka3 (i * 2) (kB a n)))))) ∧ ((((kK a n) - (i + 1)) : Nat) = (((kK a n) - i) - 1)) ∧ (kJ (dI .i64 (ka3 (j * 2) (kB b m)))) ∧ (kG ((kK b m) - j)) ∧ (kJ [qR]) ∧ (kJ (dI .i64 o))) zk ⟨rfl, rfl, rfl, (by exact dp1 (k8 ha)), (by rfl), rfl, rfl, rfl, rfl⟩ (show (kK a n - (i + 1)) + (kK b m - j) < (kK a n - i) + (kK b m - j) from zo)
     ·refine kI [.no, .n 0, .no, .d (D.lit (.int .i64 (ka1 (ka3 (i * 2) (kB a n)) 1 0))), .no, .n 0, .no, .d (D.lit (.int .i64 (ka1 (ka3 (j * 2) (kB b m)) 1 0))), .b false] ((kM 0) ∧ ((0 : Nat) < ((kK a n) - i)) ∧ ((ka3 1 (ka3 0 (dI .i64 (ka3 (i * 2) (kB a n)))))[0]? = some (D.lit (.int .i64 (ka1 (ka3 (i * 2) (kB a n)) 1 0)))) ∧ (kM 0) ∧ ((0 : Nat) < ((kK b m) - j)) ∧ ((ka3 1 (ka3 0 (dI .i64 (ka3 (j * 2) (kB b m)))))[0]? = some (D.lit (.int .i64 (ka1 (ka3 (j * 2) (kB b m)) 1 0)))) ∧ (¬ ((ka1 (ka3 (i * 2) (kB a n)) 1 0) < (ka1 (ka3 (j * 2) (kB b m)) 1 0)))) [(4, rV 2 0), (5, oV 4 0 k 2), (6, sV .i64 (ka3 (i * 2) (kB a n)) ((kK a n) - i)), (7, sV .i64 (ka3 (j * 2) (kB b m)) ((kK b m) - j)), (62, bV false)] [(2, some (56, .ds [qR])), (4, some (77, .ds (dI .i64 o)))] 6 ⟨rfl, zo, bP, rfl, zo, bP, zo⟩ ?_
      refine zf ?_
      refine uJ [.no, .sls 1 ((kK b m) - j) (((kK b m) - j) - 1) (dI .i64 (ka5 ((((kK b m) - j) - 1) * 2) (ka3 2 (ka3 (j * 2) (kB b m))))), .no] ((kM 1) ∧ (((kK b m) - j) = ((kK b m) - j)) ∧ ((1 : Nat) ≤ ((kK b m) - j)) ∧ (((kK b m) - j) ≤ ((kK b m) - j)) ∧ (((kK b m) - j) - 1 = (((kK b m) - j) - 1)) ∧ (ka5 ((((kK b m) - j) - 1) * 2) (ka3 (1 * 2) (dI .i64 (ka3 (j * 2) (kB b m)))) = (dI .i64 (ka5 ((((kK b m) - j) - 1) * 2) (ka3 2 (ka3 (j * 2) (kB b m))))))) [(4, rV 2 0), (5, oV 4 0 k 2), (6, sV .i64 (ka3 (i * 2) (kB a n)) ((kK a n) - i)), (7, sV .i64 (ka5 ((((kK b m) - j) - 1) * 2) (ka3 2 (ka3 (j * 2) (kB b m)))) (((kK b m) - j) - 1))] ⟨rfl, rfl, zo, zo, zo, pI⟩ ?_
      exact kX ⟨((i : Nat), ((j + 1) : Nat), (k : Nat), (o : List Int)), ⟨zo, (by exact hX.rn (k8 ha) (k8 hb) (aI ha) (aI hb) zo zo zo zo), (by assumption)⟩⟩ [] (P := (kG 0) ∧ (kG 0) ∧ (kG k) ∧ (kJ (dI .i64 (ka3 (i * 2) (kB a n)))) ∧ (kG ((kK a n) - i)) ∧ (((dI .i64 (ka3 ((j + 1) * 2) (kB b m))) : List D) = (dI .i64 (ka5 ((((kK b m) - j) - 1) * 2) (ka3 2 (ka3 (j * 2) (kB b m)))))) ∧ ((((kK b m) - (j + 1)) : Nat) = (((kK b m) - j) - 1)) ∧ (kJ [qR]) ∧ (kJ (dI .i64 o))) zk ⟨rfl, rfl, rfl, rfl, rfl, (by exact dp1 (k8 hb)), (by rfl), rfl, rfl⟩ (show (kK a n - i) + (kK b m - (j + 1)) < (kK a n - i) + (kK b m - j) from zo)
   ·refine kI [.no, .no, .b true, .no, .no, .no, .b true, .no, .no, .no, .no, .b false, .no] ((((0 : Int) < ((((kK a n) - i) : Nat) : Int))) ∧ (((0 : Int) < ((((kK b m) - j) : Nat) : Int))) ∧ (¬ ((k : Int) < 64))) [(4, rV 2 0), (5, oV 4 0 k 2), (6, sV .i64 (ka3 (i * 2) (kB a n)) ((kK a n) - i)), (7, sV .i64 (ka3 (j * 2) (kB b m)) ((kK b m) - j)), (25, bV false)] [(2, some (56, .ds [qR])), (4, some (77, .ds (dI .i64 o)))] 5 ⟨zo, zo, zo⟩ ?_
    refine zf ?_
    refine AW.exit ?_
    refine kI [.no, .no, .no] True [(4, rV 2 0)] [(2, some (56, .cs [.own 4 0 k 2 true])), (4, some (77, .ds (dI .i64 o)))] 5 trivial ?_
    obtain ⟨hz1, hz2⟩ := hX.fin (k8 ha) (k8 hb) zo zo
    refine AW.freeze 4 (l' := [(4, rV 2 0)]) (g' := [(2, some (56, .ds [dl o k]))]) rfl (FzS.cons rfl (.same _) FzS.nil) (FzG.to (bc := .cs [.own 4 0 k 2 true]) rfl (by rfl) (FzL.cons (@FzC.own 4 ((dI .i64 o) : List D) 0 k 2 true ((dI .i64 o) : List D) pJ eO) FzL.nil) FzG.nil) ?_
    refine AW.ret ?_
    exact kC (.inr rfl) [] (P := (((dI .i64 (uM (kB a n) (kB b m))) : List D) = (dI .i64 o)) ∧ (((qP (kB a n) (kB b m)) : Nat) = k)) zk ⟨(by exact congrArg _ hz1.symm), zo⟩
  ·refine kI [.no, .no, .b true, .no, .no, .no, .b false, .no, .no, .no] ((((0 : Int) < ((((kK a n) - i) : Nat) : Int))) ∧ (¬ ((0 : Int) < ((((kK b m) - j) : Nat) : Int)))) [(4, rV 2 0), (5, oV 4 0 k 2), (6, sV .i64 (ka3 (i * 2) (kB a n)) ((kK a n) - i)), (7, sV .i64 (ka3 (j * 2) (kB b m)) ((kK b m) - j)), (25, bV false)] [(2, some (56, .ds [qR])), (4, some (77, .ds (dI .i64 o)))] 5 ⟨zo, zo⟩ ?_
   refine zf ?_
   refine AW.exit ?_
   refine kI [.no, .no, .no] True [(4, rV 2 0)] [(2, some (56, .cs [.own 4 0 k 2 true])), (4, some (77, .ds (dI .i64 o)))] 5 trivial ?_
   obtain ⟨hz1, hz2⟩ := hX.fin (k8 ha) (k8 hb) zo zo
   refine AW.freeze 4 (l' := [(4, rV 2 0)]) (g' := [(2, some (56, .ds [dl o k]))]) rfl (FzS.cons rfl (.same _) FzS.nil) (FzG.to (bc := .cs [.own 4 0 k 2 true]) rfl (by rfl) (FzL.cons (@FzC.own 4 ((dI .i64 o) : List D) 0 k 2 true ((dI .i64 o) : List D) pJ eO) FzL.nil) FzG.nil) ?_
   refine AW.ret ?_
   exact kC (.inr rfl) [] (P := (((dI .i64 (uM (kB a n) (kB b m))) : List D) = (dI .i64 o)) ∧ (((qP (kB a n) (kB b m)) : Nat) = k)) zk ⟨(by exact congrArg _ hz1.symm), zo⟩
 ·refine kI (.no :: .no :: .b false :: kT 4 []) (¬ ((0 : Int) < ((((kK a n) - i) : Nat) : Int))) [(4, rV 2 0), (5, oV 4 0 k 2), (6, sV .i64 (ka3 (i * 2) (kB a n)) ((kK a n) - i)), (7, sV .i64 (ka3 (j * 2) (kB b m)) ((kK b m) - j)), (25, bV false)] [(2, some (56, .ds [qR])), (4, some (77, .ds (dI .i64 o)))] 5 zo ?_
  refine zf ?_
  refine AW.exit ?_
  refine kI [.no, .no, .no] True [(4, rV 2 0)] [(2, some (56, .cs [.own 4 0 k 2 true])), (4, some (77, .ds (dI .i64 o)))] 5 trivial ?_
  obtain ⟨hz1, hz2⟩ := hX.fin (k8 ha) (k8 hb) zo zo
  refine AW.freeze 4 (l' := [(4, rV 2 0)]) (g' := [(2, some (56, .ds [dl o k]))]) rfl (FzS.cons rfl (.same _) FzS.nil) (FzG.to (bc := .cs [.own 4 0 k 2 true]) rfl (by rfl) (FzL.cons (@FzC.own 4 ((dI .i64 o) : List D) 0 k 2 true ((dI .i64 o) : List D) pJ eO) FzL.nil) FzG.nil) ?_
  refine AW.ret ?_
  exact kC (.inr rfl) [] (P := (((dI .i64 (uM (kB a n) (kB b m))) : List D) = (dI .i64 o)) ∧ (((qP (kB a n) (kB b m)) : Nat) = k)) zk ⟨(by exact congrArg _ hz1.symm), zo⟩
abbrev eP (a : List Int) (n : Nat) (i : Nat) : BC := .ds [iD (ka1 (kB a n) (i * 2) 0), iD (ka1 (kB a n) ((i * 2) + 1) 0)]
theorem u0v (a b : List Int) (n m : Nat) (ha : ka0 a = n * 2) (hb : ka0 b = m * 2) (h3 : n ≤ 9223372036854775807) (h4 : m ≤ 9223372036854775807) : Fun 132 [.agg [.d (D.sl (dI .i64 a) n)], .agg [.d (D.sl (dI .i64 b) m)]] (kE []) 0 (sV .i64 (dN (kB a n) (kB b m)) (qQ (kB a n) (kB b m))) (kE []) 0 := by
 refine Fun.mk (n := 48) Tryz.func132 rfl rfl (ka4 rfl) ?_
 intro cx hcx
 refine kI [.no, .no, .no] True [(2, rV 0 0), (3, rV 1 0)] [(0, some (56, .ds [dl a n])), (1, some (56, .ds [dl b m]))] 2 trivial ?_
 refine kN [.no] True [(2, rV 0 0), (3, rV 1 0), (5, nV)] trivial ?_
 refine AW.seq ?_
 have hx1 : ((ka0 (kB a n)) = ((kK a n) * 2)) := k8 (zo)
 have hx2 : (((kK a n) ≤ 64) ∧ ((kK a n) ≤ n)) := bD
 refine kI [.no, .call [] (sV .i64 (kB a n) (kK a n)) [] 0 [] none, .no, .no] _ [(3, rV 1 0), (5, nV), (13, sV .i64 (kB a n) (kK a n)), (14, uV (kK a n)), (15, iV 0)] [(1, some (56, .ds [dl b m]))] 2 (dO a n zo zo) ?_
 refine AW.block ?_
 refine AW.adoptS 5 2 77 rfl ?_
 refine kU 0 hcx (fun (x : {x : Nat × Nat × List Int // match x with | (i, k, o) => (i ≤ kK a n ∧ k ≤ i * 64) ∧ (AL (kB a n) (kB b m) i k o) ∧ (ka0 o = k * 2)}) => match x with | ⟨(i, k, o), _⟩ => (⟨[(3, rV 1 0), (5, oV 3 0 k 2), (13, sV .i64 (kB a n) (kK a n)), (14, uV (kK a n)), (15, uV i)], [(1, some (56, .ds [dl b m])), (3, some (77, .ds (dI .i64 o)))], 4⟩ : ES)) (fun x => match x with | ⟨(i, k, o), _⟩ => kK a n - i) ⟨((0 : Nat), (0 : Nat), (([] : List Int) : List Int)), ⟨zo, (AL.zero _ _), rfl⟩⟩ [(3, 2)] (P := (kG 0) ∧ (kG 0) ∧ (kG 0) ∧ (kJ (dI .i64 (kB a n))) ∧ (kG (kK a n)) ∧ (kM (kK a n : Int)) ∧ (kM 0) ∧ (kJ [dl b m]) ∧ (((dI .i64 ([] : List Int)) : List D) = ([] : List D))) zk ⟨rfl, rfl, rfl, rfl, rfl, rfl, rfl, rfl, (by rfl)⟩ ?_
 rintro ⟨⟨i, k, o⟩, hinv0⟩
 obtain ⟨hi, hA, ho⟩ : (i ≤ kK a n ∧ k ≤ i * 64) ∧ (AL (kB a n) (kB b m) i k o) ∧ (ka0 o = k * 2) := hinv0
 refine qN (l := [(3, rV 1 0), (5, oV 3 0 k 2), (13, sV .i64 (kB a n) (kK a n)), (14, uV (kK a n)), (15, uV i)]) (g := [(1, some (56, .ds [dl b m])), (3, some (77, .ds (dI .i64 o)))]) (nx := 4) rfl rfl rfl ?_
 by_cases hx3 : (((i : Nat) : Int) < (((kK a n) : Nat) : Int))
 ·refine kI [.b true] (((i : Int) < (kK a n : Int))) [(3, rV 1 0), (5, oV 3 0 k 2), (13, sV .i64 (kB a n) (kK a n)), (14, uV (kK a n)), (15, uV i), (16, bV true)] [(1, some (56, .ds [dl b m])), (3, some (77, .ds (dI .i64 o)))] 4 zo ?_
  refine AW.seq ?_
  refine yW ?_
  refine AW.seq ?_
  refine AW.block ?_
  refine kI [.n i, .ds [iD (ka1 (kB a n) (i * 2) 0), iD (ka1 (kB a n) ((i * 2) + 1) 0)], .no, .no] ((kM (i : Int)) ∧ (i < (kK a n)) ∧ (ka5 2 (ka3 (i * 2) (dI .i64 (kB a n))) = [iD (ka1 (kB a n) (i * 2) 0), iD (ka1 (kB a n) ((i * 2) + 1) 0)]) ∧ (([iD (ka1 (kB a n) (i * 2) 0), iD (ka1 (kB a n) ((i * 2) + 1) 0)] : List D).length = 2)) [(3, rV 1 0), (5, oV 3 0 k 2), (7, rV 4 0), (13, sV .i64 (kB a n) (kK a n)), (14, uV (kK a n)), (15, uV i)] [(1, some (56, .ds [dl b m])), (3, some (77, .ds (dI .i64 o))), (4, some (77, (eP a n i)))] 5 ⟨rfl, zo, (yN .i64 (kB a n) (i * 2) 2 zo), rfl⟩ ?_
  have hx4 : ((ka0 (kB b m)) = ((kK b m) * 2)) := k8 (zo)
  have hx5 : (((kK b m) ≤ 64) ∧ ((kK b m) ≤ m)) := bD
  refine kN [.no, .call [] (sV .i64 (kB b m) (kK b m)) [] 0 [] none, .no, .no] _ [(3, rV 1 0), (5, oV 3 0 k 2), (7, rV 4 0), (13, sV .i64 (kB a n) (kK a n)), (14, uV (kK a n)), (15, uV i), (20, sV .i64 (kB b m) (kK b m)), (21, uV (kK b m)), (22, iV 0)] (dO b m zo zo) ?_
  refine AW.block ?_
  refine kU 0 hcx (fun (x : {x : Nat × Nat × List Int // match x with | (j, k2, q) => (j ≤ kK b m ∧ k2 ≤ i * 64 + j) ∧ (AJ (kB a n) (kB b m) i j k2 q) ∧ (ka0 q = k2 * 2)}) => match x with | ⟨(j, k2, q), _⟩ => (⟨[(3, rV 1 0), (5, oV 5 0 k2 2), (7, rV 4 0), (13, sV .i64 (kB a n) (kK a n)), (14, uV (kK a n)), (15, uV i), (20, sV .i64 (kB b m) (kK b m)), (21, uV (kK b m)), (22, uV j)], [(1, some (56, .ds [dl b m])), (5, some (77, .ds (dI .i64 q))), (4, some (77, (eP a n i)))], 6⟩ : ES)) (fun x => match x with | ⟨(j, k2, q), _⟩ => kK b m - j) ⟨((0 : Nat), (k : Nat), (o : List Int)), ⟨zo, hA.in, zo⟩⟩ [(5, 3)] (P := (kG 0) ∧ (kG 0) ∧ (kG k) ∧ (kG 0) ∧ (kJ (dI .i64 (kB a n))) ∧ (kG (kK a n)) ∧ (kM (kK a n : Int)) ∧ (kM (i : Int)) ∧ (kJ (dI .i64 (kB b m))) ∧ (kG (kK b m)) ∧ (kM (kK b m : Int)) ∧ (kM 0) ∧ (kJ [dl b m]) ∧ (kJ (dI .i64 o)) ∧ (kJ [iD (ka1 (kB a n) (i * 2) 0), iD (ka1 (kB a n) ((i * 2) + 1) 0)])) zk ⟨rfl, rfl, rfl, rfl, rfl, rfl, rfl, rfl, rfl, rfl, rfl, rfl, rfl, rfl, rfl⟩ ?_
  rintro ⟨⟨j, k2, q⟩, hinv1⟩
  obtain ⟨hj, hJ, hq⟩ : (j ≤ kK b m ∧ k2 ≤ i * 64 + j) ∧ (AJ (kB a n) (kB b m) i j k2 q) ∧ (ka0 q = k2 * 2) := hinv1
  refine qN (l := [(3, rV 1 0), (5, oV 5 0 k2 2), (7, rV 4 0), (13, sV .i64 (kB a n) (kK a n)), (14, uV (kK a n)), (15, uV i), (20, sV .i64 (kB b m) (kK b m)), (21, uV (kK b m)), (22, uV j)]) (g := [(1, some (56, .ds [dl b m])), (5, some (77, .ds (dI .i64 q))), (4, some (77, (eP a n i)))]) (nx := 6) rfl rfl rfl ?_
  by_cases hx6 : (((j : Nat) : Int) < (((kK b m) : Nat) : Int))
  ·refine kI [.b true] (((j : Int) < (kK b m : Int))) [(3, rV 1 0), (5, oV 5 0 k2 2), (7, rV 4 0), (13, sV .i64 (kB a n) (kK a n)), (14, uV (kK a n)), (15, uV i), (20, sV .i64 (kB b m) (kK b m)), (21, uV (kK b m)), (22, uV j), (23, bV true)] [(1, some (56, .ds [dl b m])), (4, some (77, (eP a n i))), (5, some (77, .ds (dI .i64 q)))] 6 zo ?_
   refine AW.seq ?_
   refine yW ?_
   refine AW.seq ?_
   refine AW.block ?_
   refine kI [.n j, .ds [iD (ka1 (kB b m) (j * 2) 0), iD (ka1 (kB b m) ((j * 2) + 1) 0)], .no, .no] ((kM (j : Int)) ∧ (j < (kK b m)) ∧ (ka5 2 (ka3 (j * 2) (dI .i64 (kB b m))) = [iD (ka1 (kB b m) (j * 2) 0), iD (ka1 (kB b m) ((j * 2) + 1) 0)]) ∧ (([iD (ka1 (kB b m) (j * 2) 0), iD (ka1 (kB b m) ((j * 2) + 1) 0)] : List D).length = 2)) [(3, rV 1 0), (5, oV 5 0 k2 2), (7, rV 4 0), (9, rV 6 0), (13, sV .i64 (kB a n) (kK a n)), (14, uV (kK a n)), (15, uV i), (20, sV .i64 (kB b m) (kK b m)), (21, uV (kK b m)), (22, uV j)] [(1, some (56, .ds [dl b m])), (4, some (77, (eP a n i))), (5, some (77, .ds (dI .i64 q))), (6, some (77, .ds [iD (ka1 (kB b m) (j * 2) 0), iD (ka1 (kB b m) ((j * 2) + 1) 0)]))] 7 ⟨rfl, zo, (yN .i64 (kB b m) (j * 2) 2 zo), rfl⟩ ?_
   refine kI (kT 12 []) True [(3, rV 1 0), (5, oV 5 0 k2 2), (7, rV 4 0), (10, iV (max (ka1 (kB a n) (i * 2) 0) (ka1 (kB b m) (j * 2) 0))), (11, iV (min (ka1 (kB a n) ((i * 2) + 1) 0) (ka1 (kB b m) ((j * 2) + 1) 0))), (13, sV .i64 (kB a n) (kK a n)), (14, uV (kK a n)), (15, uV i), (20, sV .i64 (kB b m) (kK b m)), (21, uV (kK b m)), (22, uV j)] [(1, some (56, .ds [dl b m])), (4, some (77, (eP a n i))), (5, some (77, .ds (dI .i64 q)))] 7 trivial ?_
   by_cases hx7 : ((max (ka1 (kB a n) (i * 2) 0) (ka1 (kB b m) (j * 2) 0)) ≤ (min (ka1 (kB a n) ((i * 2) + 1) 0) (ka1 (kB b m) ((j * 2) + 1) 0)))
   ·refine kN [.no, .no, .b true] (((max (ka1 (kB a n) (i * 2) 0) (ka1 (kB b m) (j * 2) 0)) ≤ (min (ka1 (kB a n) ((i * 2) + 1) 0) (ka1 (kB b m) ((j * 2) + 1) 0)))) [(3, rV 1 0), (5, oV 5 0 k2 2), (7, rV 4 0), (10, iV (max (ka1 (kB a n) (i * 2) 0) (ka1 (kB b m) (j * 2) 0))), (11, iV (min (ka1 (kB a n) ((i * 2) + 1) 0) (ka1 (kB b m) ((j * 2) + 1) 0))), (13, sV .i64 (kB a n) (kK a n)), (14, uV (kK a n)), (15, uV i), (20, sV .i64 (kB b m) (kK b m)), (21, uV (kK b m)), (22, uV j), (38, bV true)] zo ?_
    refine zt ?_
    refine aD (kT 5 [.ap none (k2 + 1) (dI .i64 (q ++ ([(max (ka1 (kB a n) (i * 2) 0) (ka1 (kB b m) (j * 2) 0)), (min (ka1 (kB a n) ((i * 2) + 1) 0) (ka1 (kB b m) ((j * 2) + 1) 0))] : List Int))), .no]) (([iD (max (ka1 (kB a n) (i * 2) 0) (ka1 (kB b m) (j * 2) 0)), iD (min (ka1 (kB a n) ((i * 2) + 1) 0) (ka1 (kB b m) ((j * 2) + 1) 0))].length = 1 * 2) ∧ (((dI .i64 q) : List D).length = k2 * 2) ∧ ((k2 + 1) * 16 ≤ 140737488355328) ∧ (k2 + 1 = (k2 + 1)) ∧ (((dI .i64 q) : List D) ++ [iD (max (ka1 (kB a n) (i * 2) 0) (ka1 (kB b m) (j * 2) 0)), iD (min (ka1 (kB a n) ((i * 2) + 1) 0) (ka1 (kB b m) ((j * 2) + 1) 0))] = (dI .i64 (q ++ ([(max (ka1 (kB a n) (i * 2) 0) (ka1 (kB b m) (j * 2) 0)), (min (ka1 (kB a n) ((i * 2) + 1) 0) (ka1 (kB b m) ((j * 2) + 1) 0))] : List Int))))) [(3, rV 1 0), (5, oV 8 0 (k2 + 1) 2), (7, rV 4 0), (13, sV .i64 (kB a n) (kK a n)), (14, uV (kK a n)), (15, uV i), (20, sV .i64 (kB b m) (kK b m)), (21, uV (kK b m)), (22, uV j)] [(1, some (56, .ds [dl b m])), (4, some (77, (eP a n i))), (8, some (77, .ds (dI .i64 (q ++ ([(max (ka1 (kB a n) (i * 2) 0) (ka1 (kB b m) (j * 2) 0)), (min (ka1 (kB a n) ((i * 2) + 1) 0) (ka1 (kB b m) ((j * 2) + 1) 0))] : List Int)))))] 9 ⟨eO, eO, zo, zo, (aN .i64 q ([(max (ka1 (kB a n) (i * 2) 0) (ka1 (kB b m) (j * 2) 0)), (min (ka1 (kB a n) ((i * 2) + 1) 0) (ka1 (kB b m) ((j * 2) + 1) 0))] : List Int))⟩ ?_
    refine uJ [.w, .no] ((-9223372036854775808) ≤ ((j : Int) + 1) ∧ ((j : Int) + 1) ≤ 9223372036854775807) [(3, rV 1 0), (5, oV 8 0 (k2 + 1) 2), (7, rV 4 0), (13, sV .i64 (kB a n) (kK a n)), (14, uV (kK a n)), (15, uV i), (20, sV .i64 (kB b m) (kK b m)), (21, uV (kK b m)), (22, iV (↑j + 1))] ⟨by omega, by omega⟩ ?_
    exact kX ⟨(((j + 1) : Nat), ((k2 + 1) : Nat), ((q ++ ([(max (ka1 (kB a n) (i * 2) 0) (ka1 (kB b m) (j * 2) 0)), (min (ka1 (kB a n) ((i * 2) + 1) 0) (ka1 (kB b m) ((j * 2) + 1) 0))] : List Int)) : List Int)), ⟨zo, (by exact hJ.y (k8 hb) zo zo zo zo rfl), xP⟩⟩ [(5, 8)] (P := (kG 0) ∧ (kG 0) ∧ (kG (k2 + 1)) ∧ (kG 0) ∧ (kJ (dI .i64 (kB a n))) ∧ (kG (kK a n)) ∧ (kM (kK a n : Int)) ∧ (kM (i : Int)) ∧ (kJ (dI .i64 (kB b m))) ∧ (kG (kK b m)) ∧ (kM (kK b m : Int)) ∧ (((((j + 1) : Nat) : Int) : Int) = ((j : Int) + 1)) ∧ (kJ [dl b m]) ∧ (kJ (dI .i64 (q ++ ([(max (ka1 (kB a n) (i * 2) 0) (ka1 (kB b m) (j * 2) 0)), (min (ka1 (kB a n) ((i * 2) + 1) 0) (ka1 (kB b m) ((j * 2) + 1) 0))] : List Int)))) ∧ (kJ [iD (ka1 (kB a n) (i * 2) 0), iD (ka1 (kB a n) ((i * 2) + 1) 0)])) zk ⟨rfl, rfl, rfl, rfl, rfl, rfl, rfl, rfl, rfl, rfl, rfl, (by rfl), rfl, rfl, rfl⟩ (show kK b m - (j + 1) < kK b m - j from zo)
   ·refine kN [.no, .no, .b false] (¬ ((max (ka1 (kB a n) (i * 2) 0) (ka1 (kB b m) (j * 2) 0)) ≤ (min (ka1 (kB a n) ((i * 2) + 1) 0) (ka1 (kB b m) ((j * 2) + 1) 0)))) [(3, rV 1 0), (5, oV 5 0 k2 2), (7, rV 4 0), (10, iV (max (ka1 (kB a n) (i * 2) 0) (ka1 (kB b m) (j * 2) 0))), (11, iV (min (ka1 (kB a n) ((i * 2) + 1) 0) (ka1 (kB b m) ((j * 2) + 1) 0))), (13, sV .i64 (kB a n) (kK a n)), (14, uV (kK a n)), (15, uV i), (20, sV .i64 (kB b m) (kK b m)), (21, uV (kK b m)), (22, uV j), (38, bV false)] zo ?_
    refine q8 ?_
    refine uJ [.w, .no] ((-9223372036854775808) ≤ ((j : Int) + 1) ∧ ((j : Int) + 1) ≤ 9223372036854775807) [(3, rV 1 0), (5, oV 5 0 k2 2), (7, rV 4 0), (13, sV .i64 (kB a n) (kK a n)), (14, uV (kK a n)), (15, uV i), (20, sV .i64 (kB b m) (kK b m)), (21, uV (kK b m)), (22, iV (↑j + 1))] ⟨by omega, by omega⟩ ?_
    exact kX ⟨(((j + 1) : Nat), (k2 : Nat), (q : List Int)), ⟨zo, (by exact hJ.n (k8 hb) zo zo), (by assumption)⟩⟩ [] (P := (kG 0) ∧ (kG 0) ∧ (kG k2) ∧ (kG 0) ∧ (kJ (dI .i64 (kB a n))) ∧ (kG (kK a n)) ∧ (kM (kK a n : Int)) ∧ (kM (i : Int)) ∧ (kJ (dI .i64 (kB b m))) ∧ (kG (kK b m)) ∧ (kM (kK b m : Int)) ∧ (((((j + 1) : Nat) : Int) : Int) = ((j : Int) + 1)) ∧ (kJ [dl b m]) ∧ (kJ (dI .i64 q)) ∧ (kJ [iD (ka1 (kB a n) (i * 2) 0), iD (ka1 (kB a n) ((i * 2) + 1) 0)])) zk ⟨rfl, rfl, rfl, rfl, rfl, rfl, rfl, rfl, rfl, rfl, rfl, (by rfl), rfl, rfl, rfl⟩ (show kK b m - (j + 1) < kK b m - j from zo)
  ·refine kI [.b false] (¬ ((j : Int) < (kK b m : Int))) [(3, rV 1 0), (5, oV 5 0 k2 2), (7, rV 4 0), (13, sV .i64 (kB a n) (kK a n)), (14, uV (kK a n)), (15, uV i), (20, sV .i64 (kB b m) (kK b m)), (21, uV (kK b m)), (22, uV j), (23, bV false)] [(1, some (56, .ds [dl b m])), (4, some (77, (eP a n i))), (5, some (77, .ds (dI .i64 q)))] 6 zo ?_
   refine AW.seq ?_
   refine zf ?_
   refine AW.exit ?_
   refine aD [.w, .no] ((-9223372036854775808) ≤ ((i : Int) + 1) ∧ ((i : Int) + 1) ≤ 9223372036854775807) [(3, rV 1 0), (5, oV 5 0 k2 2), (13, sV .i64 (kB a n) (kK a n)), (14, uV (kK a n)), (15, iV (↑i + 1))] [(1, some (56, .ds [dl b m])), (5, some (77, .ds (dI .i64 q)))] 6 ⟨by omega, by omega⟩ ?_
   exact kX ⟨(((i + 1) : Nat), (k2 : Nat), (q : List Int)), ⟨zo, (hJ.out (k8 ha) zo (k8 hb) zo), (by assumption)⟩⟩ [(3, 5)] (P := (kG 0) ∧ (kG 0) ∧ (kG k2) ∧ (kJ (dI .i64 (kB a n))) ∧ (kG (kK a n)) ∧ (kM (kK a n : Int)) ∧ (((((i + 1) : Nat) : Int) : Int) = ((i : Int) + 1)) ∧ (kJ [dl b m]) ∧ (kJ (dI .i64 q))) zk ⟨rfl, rfl, rfl, rfl, rfl, rfl, (by rfl), rfl, rfl⟩ (show kK a n - (i + 1) < kK a n - i from zo)
 ·refine kI [.b false] (¬ ((i : Int) < (kK a n : Int))) [(3, rV 1 0), (5, oV 3 0 k 2), (13, sV .i64 (kB a n) (kK a n)), (14, uV (kK a n)), (15, uV i), (16, bV false)] [(1, some (56, .ds [dl b m])), (3, some (77, .ds (dI .i64 o)))] 4 zo ?_
  refine AW.seq ?_
  refine zf ?_
  refine AW.exit ?_
  refine kI [.no, .no] True [(4, oV 3 0 k 2)] [(3, some (77, .ds (dI .i64 o)))] 4 trivial ?_
  obtain ⟨hz1, hz2⟩ := hA.fin (k8 ha) zo
  have hz3 : qQ (kB a n) (kB b m) = k := hz2
  refine AW.freeze 3 (l' := [(4, sV .i64 o k)]) (g' := []) rfl (FzS.cons rfl (.e (.c (@FzC.own 3 ((dI .i64 o) : List D) 0 k 2 true ((dI .i64 o) : List D) pJ eO))) FzS.nil) FzG.nil ?_
  refine AW.ret ?_
  exact kC (.inr rfl) [] (P := (((dI .i64 (dN (kB a n) (kB b m))) : List D) = (dI .i64 o)) ∧ (((qQ (kB a n) (kB b m)) : Nat) = k)) zk ⟨(by exact congrArg _ hz1.symm), zo⟩
theorem pA (p q u w : Int)  : Fun 144 [.agg [iC p, iC q], .c (.ptr 0 0)] (kE [(0, some (77, .ds [iD u, iD w]))]) 1 (qS (D.lit (.bool (decide (p ≤ u ∧ w ≤ q))))) (kE [(0, some (77, .ds [iD u, iD w]))]) 1 := by
 refine Fun.mk (n := 16) Tryz.func144 rfl rfl (ka4 rfl) ?_
 intro cx hcx
 refine kI [.no, .no] True [(1, rV 0 0), (2, rV 1 0)] [(0, some (77, .ds [iD u, iD w])), (1, some (77, .ds [iD p, iD q]))] 2 trivial ?_
 by_cases hx1 : (p ≤ u)
 ·by_cases hx2 : (w ≤ q)
  ·refine kI (kT 4 (.b true :: kT 5 [.b true, .no, .no])) (((p ≤ u)) ∧ ((w ≤ q))) [(3, bV true)] [(0, some (77, .ds [iD u, iD w]))] 2 ⟨zo, zo⟩ ?_
   refine AW.ret ?_
   exact kC (.inr rfl) [] (P := ((decide (p ≤ u ∧ w ≤ q)) = true) ∧ (kJ [iD u, iD w])) zk ⟨(by exact decide_eq_true zo), rfl⟩
  ·refine kI (kT 4 (.b true :: kT 5 [.b false, .no, .no])) (((p ≤ u)) ∧ (¬ (w ≤ q))) [(3, bV false)] [(0, some (77, .ds [iD u, iD w]))] 2 ⟨zo, zo⟩ ?_
   refine AW.ret ?_
   exact kC (.inr rfl) [] (P := ((decide (p ≤ u ∧ w ≤ q)) = false) ∧ (kJ [iD u, iD w])) zk ⟨(by exact decide_eq_false zo), rfl⟩
 ·refine kI (kT 4 [.b false, .no, .no, .no]) (¬ (p ≤ u)) [(3, bV false)] [(0, some (77, .ds [iD u, iD w]))] 2 zo ?_
  refine AW.ret ?_
  exact kC (.inr rfl) [] (P := ((decide (p ≤ u ∧ w ≤ q)) = false) ∧ (kJ [iD u, iD w])) zk ⟨(by exact decide_eq_false zo), rfl⟩
theorem lD (b : List Int) (m : Nat) (u w : Int) (hb : ka0 b = m * 2) (h2 : m ≤ 1000000) : Fun 150 [.c (.d (D.sl (dI .i64 b) m)), .c (.fn 144 [(0, 0)])] (kE [(0, some (77, .ds [iD u, iD w]))]) 1 (iV (lY b u w m)) (kE [(0, some (77, .ds [iD u, iD w]))]) 1 := by
 refine Fun.mk (n := 19) Tryz.func150 rfl rfl (ka4 rfl) ?_
 intro cx hcx
 refine kI [.no] True [(0, sV .i64 b m), (1, .e (.c (.fn 144 [(0, 0)])))] [(0, some (77, .ds [iD u, iD w]))] 1 trivial ?_
 refine AW.seq ?_
 refine kN [.no, .no, .no] True [(0, sV .i64 b m), (1, .e (.c (.fn 144 [(0, 0)]))), (7, uV m), (8, iV 0)] trivial ?_
 refine AW.block ?_
 refine kU 1 hcx (fun (x : {x : Nat // match x with | k => (k ≤ m) ∧ (lY b u w k = -1)}) => match x with | ⟨k, _⟩ => (⟨[(0, sV .i64 b m), (1, .e (.c (.fn 144 [(0, 0)]))), (7, uV m), (8, uV k)], [(0, some (77, .ds [iD u, iD w]))], 1⟩ : ES)) (fun x => match x with | ⟨k, _⟩ => m - k) ⟨(0 : Nat), ⟨zo, rfl⟩⟩ [] (P := (kJ (dI .i64 b)) ∧ (kG m) ∧ (kM (m : Int)) ∧ (kM 0) ∧ (kJ [iD u, iD w])) zk ⟨rfl, rfl, rfl, rfl, rfl⟩ ?_
 rintro ⟨k, hinv0⟩
 obtain ⟨hk, hi⟩ : (k ≤ m) ∧ (lY b u w k = -1) := hinv0
 refine qN (l := [(0, sV .i64 b m), (1, .e (.c (.fn 144 [(0, 0)]))), (7, uV m), (8, uV k)]) (g := [(0, some (77, .ds [iD u, iD w]))]) (nx := 1) rfl rfl rfl ?_
 by_cases hx1 : (((k : Nat) : Int) < ((m : Nat) : Int))
 ·refine kI [.b true] (((k : Int) < (m : Int))) [(0, sV .i64 b m), (1, .e (.c (.fn 144 [(0, 0)]))), (7, uV m), (8, uV k), (9, bV true)] [(0, some (77, .ds [iD u, iD w]))] 1 zo ?_
  refine AW.seq ?_
  refine yW ?_
  refine AW.seq ?_
  refine AW.block ?_
  refine kN [.no, .no] True [(0, sV .i64 b m), (1, .e (.c (.fn 144 [(0, 0)]))), (5, uV k), (7, uV m), (8, uV k)] trivial ?_
  rcases ka6 (decide ((ka1 b (k * 2) 0) ≤ u ∧ w ≤ (ka1 b ((k * 2) + 1) 0))) with hx2 | hx2
  ·have hx3 : (((ka1 b (k * 2) 0) ≤ u) ∧ (w ≤ (ka1 b ((k * 2) + 1) 0))) := of_decide_eq_true hx2
   refine kN [.no, .no, .no, .n k, .ds [iD (ka1 b (k * 2) 0), iD (ka1 b ((k * 2) + 1) 0)], .call [0] (bV true) [(0, some (77, .ds [iD u, iD w]))] 1 [] none] ((kM (k : Int)) ∧ (k < m) ∧ (ka5 2 (ka3 (k * 2) (dI .i64 b)) = [iD (ka1 b (k * 2) 0), iD (ka1 b ((k * 2) + 1) 0)]) ∧ (([iD (ka1 b (k * 2) 0), iD (ka1 b ((k * 2) + 1) 0)] : List D).length = 2) ∧ (Fun 144 [.agg [iC (ka1 b (k * 2) 0), iC (ka1 b ((k * 2) + 1) 0)], .c (.ptr 0 0)] (kE [(0, some (77, .ds [iD u, iD w]))]) 1 (bV true) (kE [(0, some (77, .ds [iD u, iD w]))]) 1)) [(0, sV .i64 b m), (1, .e (.c (.fn 144 [(0, 0)]))), (5, uV k), (7, uV m), (8, uV k), (16, bV true)] ⟨rfl, zo, (yN .i64 b (k * 2) 2 zo), rfl, (by have h0 := (pA (ka1 b (k * 2) 0) (ka1 b ((k * 2) + 1) 0) u w); rw [hx2] at h0; exact h0)⟩ ?_
   refine zt ?_
   refine kN [.no, .no] True [(4, uV k)] trivial ?_
   refine AW.ret ?_
   exact kC (.inr rfl) [] (P := (((lY b u w m) : Int) = (k : Int)) ∧ (kJ [iD u, iD w])) zk ⟨(by exact zZ hi zo m zo), rfl⟩
  ·have hx4 : ¬ (((ka1 b (k * 2) 0) ≤ u) ∧ (w ≤ (ka1 b ((k * 2) + 1) 0))) := of_decide_eq_false hx2
   refine kN [.no, .no, .no, .n k, .ds [iD (ka1 b (k * 2) 0), iD (ka1 b ((k * 2) + 1) 0)], .call [0] (bV false) [(0, some (77, .ds [iD u, iD w]))] 1 [] none] ((kM (k : Int)) ∧ (k < m) ∧ (ka5 2 (ka3 (k * 2) (dI .i64 b)) = [iD (ka1 b (k * 2) 0), iD (ka1 b ((k * 2) + 1) 0)]) ∧ (([iD (ka1 b (k * 2) 0), iD (ka1 b ((k * 2) + 1) 0)] : List D).length = 2) ∧ (Fun 144 [.agg [iC (ka1 b (k * 2) 0), iC (ka1 b ((k * 2) + 1) 0)], .c (.ptr 0 0)] (kE [(0, some (77, .ds [iD u, iD w]))]) 1 (bV false) (kE [(0, some (77, .ds [iD u, iD w]))]) 1)) [(0, sV .i64 b m), (1, .e (.c (.fn 144 [(0, 0)]))), (5, uV k), (7, uV m), (8, uV k), (16, bV false)] ⟨rfl, zo, (yN .i64 b (k * 2) 2 zo), rfl, (by have h0 := (pA (ka1 b (k * 2) 0) (ka1 b ((k * 2) + 1) 0) u w); rw [hx2] at h0; exact h0)⟩ ?_
   refine q8 ?_
   refine uJ [.w, .no] ((-9223372036854775808) ≤ ((k : Int) + 1) ∧ ((k : Int) + 1) ≤ 9223372036854775807) [(0, sV .i64 b m), (1, .e (.c (.fn 144 [(0, 0)]))), (7, uV m), (8, iV (↑k + 1))] ⟨by omega, by omega⟩ ?_
   exact kX ⟨((k + 1) : Nat), ⟨zo, (k18 hi zo)⟩⟩ [] (P := (kJ (dI .i64 b)) ∧ (kG m) ∧ (kM (m : Int)) ∧ (((((k + 1) : Nat) : Int) : Int) = ((k : Int) + 1)) ∧ (kJ [iD u, iD w])) zk ⟨rfl, rfl, rfl, (by rfl), rfl⟩ (show m - (k + 1) < m - k from zo)
 ·refine kI [.b false] (¬ ((k : Int) < (m : Int))) [(0, sV .i64 b m), (1, .e (.c (.fn 144 [(0, 0)]))), (7, uV m), (8, uV k), (9, bV false)] [(0, some (77, .ds [iD u, iD w]))] 1 zo ?_
  refine AW.seq ?_
  refine zf ?_
  refine AW.exit ?_
  refine kI [.no] True [(4, iV (-1))] [(0, some (77, .ds [iD u, iD w]))] 1 trivial ?_
  refine AW.ret ?_
  exact kC (.inr rfl) [] (P := (((lY b u w m) : Int) = (-1)) ∧ (kJ [iD u, iD w])) zk ⟨(by (rw [show m = k by omega]; exact hi)), rfl⟩
theorem nI (b : List Int) (m : Nat) (u w : Int) (hb : ka0 b = m * 2) (h2 : m ≤ 1000000) : Fun 145 [.c (.d (D.sl (dI .i64 b) m)), .c (.fn 144 [(0, 0)])] (kE [(0, some (77, .ds [iD u, iD w]))]) 1 (qS (D.lit (.bool (tB b u w)))) (kE [(0, some (77, .ds [iD u, iD w]))]) 1 := by
 refine Fun.mk (n := 9) Tryz.func145 rfl rfl (ka4 rfl) ?_
 intro cx hcx
 refine kI [.no] True [(0, sV .i64 b m), (1, .e (.c (.fn 144 [(0, 0)])))] [(0, some (77, .ds [iD u, iD w]))] 1 trivial ?_
 by_cases hx1 : ((0 : Int) ≤ (lY b u w m))
 ·refine kN [.no, .no, .call [0] (iV (lY b u w m)) [(0, some (77, .ds [iD u, iD w]))] 1 [] none, .b true, .no] ((_) ∧ (((0 : Int) ≤ (lY b u w m)))) [(4, bV true)] ⟨(lD b m u w zo zo), zo⟩ ?_
  refine AW.ret ?_
  exact kC (.inr rfl) [] (P := ((tB b u w) = true) ∧ (kJ [iD u, iD w])) zk ⟨(by exact u8w hb zo), rfl⟩
 ·refine kN [.no, .no, .call [0] (iV (lY b u w m)) [(0, some (77, .ds [iD u, iD w]))] 1 [] none, .b false, .no] ((_) ∧ (¬ ((0 : Int) ≤ (lY b u w m)))) [(4, bV false)] ⟨(lD b m u w zo zo), zo⟩ ?_
  refine AW.ret ?_
  exact kC (.inr rfl) [] (P := ((tB b u w) = false) ∧ (kJ [iD u, iD w])) zk ⟨(by exact u8x hb zo), rfl⟩
abbrev gO (a : List Int) (n : Nat) (k : Nat) : BC := .ds [iD (ka1 (kB a n) (k * 2) 0), iD (ka1 (kB a n) ((k * 2) + 1) 0)]
theorem dQ (a b : List Int) (n m : Nat) (ha : ka0 a = n * 2) (hb : ka0 b = m * 2) (h3 : n ≤ 9223372036854775807) (h4 : m ≤ 9223372036854775807) : Fun 125 [.agg [.d (D.sl (dI .i64 a) n)], .agg [.d (D.sl (dI .i64 b) m)]] (kE []) 0 (qS (D.lit (.bool (n4 (kB a n) (kB b m))))) (kE []) 0 := by
 refine Fun.mk (n := 24) Tryz.func125 rfl rfl (ka4 rfl) ?_
 intro cx hcx
 refine kI [.no, .no, .no] True [(2, rV 0 0), (3, rV 1 0)] [(0, some (56, .ds [dl a n])), (1, some (56, .ds [dl b m]))] 2 trivial ?_
 have hx1 : ((ka0 (kB b m)) = ((kK b m) * 2)) := k8 (zo)
 have hx2 : (((kK b m) ≤ 64) ∧ ((kK b m) ≤ m)) := bD
 refine kI [.no, .call [] (sV .i64 (kB b m) (kK b m)) [] 0 [] none, .no] _ [(2, rV 0 0), (5, sV .i64 (kB b m) (kK b m))] [(0, some (56, .ds [dl a n]))] 2 (f5 b m zo zo) ?_
 refine AW.seq ?_
 have hx3 : ((ka0 (kB a n)) = ((kK a n) * 2)) := k8 (zo)
 have hx4 : (((kK a n) ≤ 64) ∧ ((kK a n) ≤ n)) := bD
 refine kI [.no, .call [] (sV .i64 (kB a n) (kK a n)) [] 0 [] none, .no, .no] _ [(5, sV .i64 (kB b m) (kK b m)), (12, sV .i64 (kB a n) (kK a n)), (13, uV (kK a n)), (14, iV 0)] [] 2 (f5 a n zo zo) ?_
 refine AW.block ?_
 refine kU 0 hcx (fun (x : {x : Nat // match x with | k => (k ≤ kK a n) ∧ (∀ j, j < k → tB (kB b m) (ka1 (kB a n) (j * 2) 0) (ka1 (kB a n) (j * 2 + 1) 0) = true)}) => match x with | ⟨k, _⟩ => (⟨[(5, sV .i64 (kB b m) (kK b m)), (12, sV .i64 (kB a n) (kK a n)), (13, uV (kK a n)), (14, uV k)], [], 2⟩ : ES)) (fun x => match x with | ⟨k, _⟩ => kK a n - k) ⟨(0 : Nat), ⟨zo, (fun j hj => absurd hj (kd1 j))⟩⟩ [] (P := (kJ (dI .i64 (kB b m))) ∧ (kG (kK b m)) ∧ (kJ (dI .i64 (kB a n))) ∧ (kG (kK a n)) ∧ (kM (kK a n : Int)) ∧ (kM 0)) zk ⟨rfl, rfl, rfl, rfl, rfl, rfl⟩ ?_
 rintro ⟨k, hinv0⟩
 obtain ⟨hk, hq⟩ : (k ≤ kK a n) ∧ (∀ j, j < k → tB (kB b m) (ka1 (kB a n) (j * 2) 0) (ka1 (kB a n) (j * 2 + 1) 0) = true) := hinv0
 refine qN (l := [(5, sV .i64 (kB b m) (kK b m)), (12, sV .i64 (kB a n) (kK a n)), (13, uV (kK a n)), (14, uV k)]) (g := []) (nx := 2) rfl rfl rfl ?_
 by_cases hx5 : (((k : Nat) : Int) < (((kK a n) : Nat) : Int))
 ·refine kI [.b true] (((k : Int) < (kK a n : Int))) [(5, sV .i64 (kB b m) (kK b m)), (12, sV .i64 (kB a n) (kK a n)), (13, uV (kK a n)), (14, uV k), (15, bV true)] [] 2 zo ?_
  refine AW.seq ?_
  refine yW ?_
  refine AW.seq ?_
  refine AW.block ?_
  refine kI [.n k, .ds [iD (ka1 (kB a n) (k * 2) 0), iD (ka1 (kB a n) ((k * 2) + 1) 0)], .no, .no] ((kM (k : Int)) ∧ (k < (kK a n)) ∧ (ka5 2 (ka3 (k * 2) (dI .i64 (kB a n))) = [iD (ka1 (kB a n) (k * 2) 0), iD (ka1 (kB a n) ((k * 2) + 1) 0)]) ∧ (([iD (ka1 (kB a n) (k * 2) 0), iD (ka1 (kB a n) ((k * 2) + 1) 0)] : List D).length = 2)) [(5, sV .i64 (kB b m) (kK b m)), (7, rV 2 0), (12, sV .i64 (kB a n) (kK a n)), (13, uV (kK a n)), (14, uV k)] [(2, some (77, (gO a n k)))] 3 ⟨rfl, zo, (yN .i64 (kB a n) (k * 2) 2 zo), rfl⟩ ?_
  refine kN [.no, .no] True [(5, sV .i64 (kB b m) (kK b m)), (8, .e (.c (.fn 144 [(2, 0)]))), (12, sV .i64 (kB a n) (kK a n)), (13, uV (kK a n)), (14, uV k)] trivial ?_
  rcases ka6 (tB (kB b m) (ka1 (kB a n) (k * 2) 0) (ka1 (kB a n) ((k * 2) + 1) 0)) with hx6 | hx6
  ·refine kI [.no, .no, .call [2] (bV true) [(0, some (77, (gO a n k)))] 1 [] none, .no] (Fun 145 [.c (.d (dl (kB b m) (kK b m))), .c (.fn 144 [(0, 0)])] (kE [(0, some (77, (gO a n k)))]) 1 (bV true) (kE [(0, some (77, (gO a n k)))]) 1) [(5, sV .i64 (kB b m) (kK b m)), (12, sV .i64 (kB a n) (kK a n)), (13, uV (kK a n)), (14, uV k), (22, bV false)] [] 3 (by have h0 := (nI (kB b m) (kK b m) (ka1 (kB a n) (k * 2) 0) (ka1 (kB a n) ((k * 2) + 1) 0) zo zo); rw [hx6] at h0; exact h0) ?_
   refine q8 ?_
   refine uJ [.w, .no] ((-9223372036854775808) ≤ ((k : Int) + 1) ∧ ((k : Int) + 1) ≤ 9223372036854775807) [(5, sV .i64 (kB b m) (kK b m)), (12, sV .i64 (kB a n) (kK a n)), (13, uV (kK a n)), (14, iV (↑k + 1))] ⟨by omega, by omega⟩ ?_
   exact kX ⟨((k + 1) : Nat), ⟨zo, (fun j hj => (Nat.lt_succ_iff_lt_or_eq.1 hj).elim (hq j) (fun e9 => by subst e9; assumption))⟩⟩ [] (P := (kJ (dI .i64 (kB b m))) ∧ (kG (kK b m)) ∧ (kJ (dI .i64 (kB a n))) ∧ (kG (kK a n)) ∧ (kM (kK a n : Int)) ∧ (((((k + 1) : Nat) : Int) : Int) = ((k : Int) + 1))) zk ⟨rfl, rfl, rfl, rfl, rfl, (by rfl)⟩ (show kK a n - (k + 1) < kK a n - k from zo)
  ·refine kI [.no, .no, .call [2] (bV false) [(0, some (77, (gO a n k)))] 1 [] none, .no] (Fun 145 [.c (.d (dl (kB b m) (kK b m))), .c (.fn 144 [(0, 0)])] (kE [(0, some (77, (gO a n k)))]) 1 (bV false) (kE [(0, some (77, (gO a n k)))]) 1) [(5, sV .i64 (kB b m) (kK b m)), (12, sV .i64 (kB a n) (kK a n)), (13, uV (kK a n)), (14, uV k), (22, bV true)] [] 3 (by have h0 := (nI (kB b m) (kK b m) (ka1 (kB a n) (k * 2) 0) (ka1 (kB a n) ((k * 2) + 1) 0) zo zo); rw [hx6] at h0; exact h0) ?_
   refine zt ?_
   refine kN [.no] True [(4, bV false)] trivial ?_
   refine AW.ret ?_
   exact kC (.inr rfl) [] (P := ((n4 (kB a n) (kB b m)) = false)) zk (by exact u5i (k := k) (k8 ha) zo (by assumption))
 ·refine kI [.b false] (¬ ((k : Int) < (kK a n : Int))) [(5, sV .i64 (kB b m) (kK b m)), (12, sV .i64 (kB a n) (kK a n)), (13, uV (kK a n)), (14, uV k), (15, bV false)] [] 2 zo ?_
  refine AW.seq ?_
  refine zf ?_
  refine AW.exit ?_
  refine kI [.no] True [(4, bV true)] [] 2 trivial ?_
  refine AW.ret ?_
  exact kC (.inr rfl) [] (P := ((n4 (kB a n) (kB b m)) = true)) zk (by exact u5h (k8 ha) (fun j hj => hq j zo))
abbrev cW (a : List Int) (n : Nat) (k : Nat) : BC := .ds [iD (ka1 (kB a n) (k * 2) 0), iD (ka1 (kB a n) ((k * 2) + 1) 0)]
theorem dP (a b : List Int) (n m : Nat) (ha : ka0 a = n * 2) (hb : ka0 b = m * 2) (h3 : n ≤ 9223372036854775807) (h4 : m ≤ 9223372036854775807) : Fun 84 [.agg [.d (D.sl (dI .i64 a) n)], .agg [.d (D.sl (dI .i64 b) m)]] (kE []) 0 (qS (D.lit (.bool (n4 (kB a n) (kB b m))))) (kE []) 0 := by
 refine Fun.mk (n := 43) Tryz.func84 rfl rfl (ka4 rfl) ?_
 intro cx hcx
 refine kI [.no, .no, .no] True [(2, rV 0 0), (3, rV 1 0)] [(0, some (56, .ds [dl a n])), (1, some (56, .ds [dl b m]))] 2 trivial ?_
 refine AW.seq ?_
 have hx1 : ((ka0 (kB a n)) = ((kK a n) * 2)) := k8 (zo)
 have hx2 : (((kK a n) ≤ 64) ∧ ((kK a n) ≤ n)) := bD
 refine kI [.no, .call [] (sV .i64 (kB a n) (kK a n)) [] 0 [] none, .no, .no] _ [(3, rV 1 0), (11, sV .i64 (kB a n) (kK a n)), (12, uV (kK a n)), (13, iV 0)] [(1, some (56, .ds [dl b m]))] 2 (dO a n zo zo) ?_
 refine AW.block ?_
 refine kU 0 hcx (fun (x : {x : Nat // match x with | k => (k ≤ kK a n) ∧ (∀ j, j < k → tB (kB b m) (ka1 (kB a n) (j * 2) 0) (ka1 (kB a n) (j * 2 + 1) 0) = true)}) => match x with | ⟨k, _⟩ => (⟨[(3, rV 1 0), (11, sV .i64 (kB a n) (kK a n)), (12, uV (kK a n)), (13, uV k)], [(1, some (56, .ds [dl b m]))], 2⟩ : ES)) (fun x => match x with | ⟨k, _⟩ => kK a n - k) ⟨(0 : Nat), ⟨zo, (fun j hj => absurd hj (kd1 j))⟩⟩ [] (P := (kG 0) ∧ (kJ (dI .i64 (kB a n))) ∧ (kG (kK a n)) ∧ (kM (kK a n : Int)) ∧ (kM 0) ∧ (kJ [dl b m])) zk ⟨rfl, rfl, rfl, rfl, rfl, rfl⟩ ?_
 rintro ⟨k, hinv0⟩
 obtain ⟨hk, hq⟩ : (k ≤ kK a n) ∧ (∀ j, j < k → tB (kB b m) (ka1 (kB a n) (j * 2) 0) (ka1 (kB a n) (j * 2 + 1) 0) = true) := hinv0
 refine qN (l := [(3, rV 1 0), (11, sV .i64 (kB a n) (kK a n)), (12, uV (kK a n)), (13, uV k)]) (g := [(1, some (56, .ds [dl b m]))]) (nx := 2) rfl rfl rfl ?_
 by_cases hx3 : (((k : Nat) : Int) < (((kK a n) : Nat) : Int))
 ·refine kI [.b true] (((k : Int) < (kK a n : Int))) [(3, rV 1 0), (11, sV .i64 (kB a n) (kK a n)), (12, uV (kK a n)), (13, uV k), (14, bV true)] [(1, some (56, .ds [dl b m]))] 2 zo ?_
  refine AW.seq ?_
  refine yW ?_
  refine AW.seq ?_
  refine AW.block ?_
  refine kI [.n k, .ds [iD (ka1 (kB a n) (k * 2) 0), iD (ka1 (kB a n) ((k * 2) + 1) 0)], .no, .no] ((kM (k : Int)) ∧ (k < (kK a n)) ∧ (ka5 2 (ka3 (k * 2) (dI .i64 (kB a n))) = [iD (ka1 (kB a n) (k * 2) 0), iD (ka1 (kB a n) ((k * 2) + 1) 0)]) ∧ (([iD (ka1 (kB a n) (k * 2) 0), iD (ka1 (kB a n) ((k * 2) + 1) 0)] : List D).length = 2)) [(3, rV 1 0), (6, rV 2 0), (11, sV .i64 (kB a n) (kK a n)), (12, uV (kK a n)), (13, uV k)] [(1, some (56, .ds [dl b m])), (2, some (77, (cW a n k)))] 3 ⟨rfl, zo, (yN .i64 (kB a n) (k * 2) 2 zo), rfl⟩ ?_
  refine kN [.no] True [(3, rV 1 0), (6, rV 2 0), (7, bV false), (11, sV .i64 (kB a n) (kK a n)), (12, uV (kK a n)), (13, uV k)] trivial ?_
  refine AW.seq ?_
  have hx4 : ((ka0 (kB b m)) = ((kK b m) * 2)) := k8 (zo)
  have hx5 : (((kK b m) ≤ 64) ∧ ((kK b m) ≤ m)) := bD
  refine kN [.no, .call [] (sV .i64 (kB b m) (kK b m)) [] 0 [] none, .no, .no] _ [(3, rV 1 0), (6, rV 2 0), (7, bV false), (11, sV .i64 (kB a n) (kK a n)), (12, uV (kK a n)), (13, uV k), (18, sV .i64 (kB b m) (kK b m)), (19, uV (kK b m)), (20, iV 0)] (dO b m zo zo) ?_
  refine AW.block ?_
  refine kU 0 hcx (fun (x : {x : Nat × Bool // match x with | (j, f) => (j ≤ kK b m) ∧ (CJ (kB b m) (ka1 (kB a n) (k * 2) 0) (ka1 (kB a n) (k * 2 + 1) 0) j f)}) => match x with | ⟨(j, f), _⟩ => (⟨[(3, rV 1 0), (6, rV 2 0), (7, qS (D.lit (.bool (f)))), (11, sV .i64 (kB a n) (kK a n)), (12, uV (kK a n)), (13, uV k), (18, sV .i64 (kB b m) (kK b m)), (19, uV (kK b m)), (20, uV j)], [(1, some (56, .ds [dl b m])), (2, some (77, (cW a n k)))], 3⟩ : ES)) (fun x => match x with | ⟨(j, f), _⟩ => kK b m - j) ⟨((0 : Nat), (false : Bool)), ⟨zo, (CJ.zero _ _ _)⟩⟩ [] (P := (kG 0) ∧ (kG 0) ∧ ((false) = false) ∧ (kJ (dI .i64 (kB a n))) ∧ (kG (kK a n)) ∧ (kM (kK a n : Int)) ∧ (kM (k : Int)) ∧ (kJ (dI .i64 (kB b m))) ∧ (kG (kK b m)) ∧ (kM (kK b m : Int)) ∧ (kM 0) ∧ (kJ [dl b m]) ∧ (kJ [iD (ka1 (kB a n) (k * 2) 0), iD (ka1 (kB a n) ((k * 2) + 1) 0)])) zk ⟨rfl, rfl, (by rfl), rfl, rfl, rfl, rfl, rfl, rfl, rfl, rfl, rfl, rfl⟩ ?_
  rintro ⟨⟨j, f⟩, hinv1⟩
  obtain ⟨hj, hJ⟩ : (j ≤ kK b m) ∧ (CJ (kB b m) (ka1 (kB a n) (k * 2) 0) (ka1 (kB a n) (k * 2 + 1) 0) j f) := hinv1
  refine qN (l := [(3, rV 1 0), (6, rV 2 0), (7, qS (D.lit (.bool (f)))), (11, sV .i64 (kB a n) (kK a n)), (12, uV (kK a n)), (13, uV k), (18, sV .i64 (kB b m) (kK b m)), (19, uV (kK b m)), (20, uV j)]) (g := [(1, some (56, .ds [dl b m])), (2, some (77, (cW a n k)))]) (nx := 3) rfl rfl rfl ?_
  by_cases hx6 : (((j : Nat) : Int) < (((kK b m) : Nat) : Int))
  ·refine kI [.b true] (((j : Int) < (kK b m : Int))) [(3, rV 1 0), (6, rV 2 0), (7, qS (D.lit (.bool (f)))), (11, sV .i64 (kB a n) (kK a n)), (12, uV (kK a n)), (13, uV k), (18, sV .i64 (kB b m) (kK b m)), (19, uV (kK b m)), (20, uV j), (21, bV true)] [(1, some (56, .ds [dl b m])), (2, some (77, (cW a n k)))] 3 zo ?_
   refine AW.seq ?_
   refine yW ?_
   refine AW.seq ?_
   refine AW.block ?_
   refine kI [.n j, .ds [iD (ka1 (kB b m) (j * 2) 0), iD (ka1 (kB b m) ((j * 2) + 1) 0)], .no, .no] ((kM (j : Int)) ∧ (j < (kK b m)) ∧ (ka5 2 (ka3 (j * 2) (dI .i64 (kB b m))) = [iD (ka1 (kB b m) (j * 2) 0), iD (ka1 (kB b m) ((j * 2) + 1) 0)]) ∧ (([iD (ka1 (kB b m) (j * 2) 0), iD (ka1 (kB b m) ((j * 2) + 1) 0)] : List D).length = 2)) [(3, rV 1 0), (6, rV 2 0), (7, qS (D.lit (.bool (f)))), (9, rV 3 0), (11, sV .i64 (kB a n) (kK a n)), (12, uV (kK a n)), (13, uV k), (18, sV .i64 (kB b m) (kK b m)), (19, uV (kK b m)), (20, uV j)] [(1, some (56, .ds [dl b m])), (2, some (77, (cW a n k))), (3, some (77, .ds [iD (ka1 (kB b m) (j * 2) 0), iD (ka1 (kB b m) ((j * 2) + 1) 0)]))] 4 ⟨rfl, zo, (yN .i64 (kB b m) (j * 2) 2 zo), rfl⟩ ?_
   rcases ka6 (f) with hx7 | hx7
   ·subst hx7
    refine aD (kT 4 []) True [(3, rV 1 0), (6, rV 2 0), (7, bV true), (11, sV .i64 (kB a n) (kK a n)), (12, uV (kK a n)), (13, uV k), (18, sV .i64 (kB b m) (kK b m)), (19, uV (kK b m)), (20, uV j)] [(1, some (56, .ds [dl b m])), (2, some (77, (cW a n k)))] 4 trivial ?_
    refine uJ [.w, .no] ((-9223372036854775808) ≤ ((j : Int) + 1) ∧ ((j : Int) + 1) ≤ 9223372036854775807) [(3, rV 1 0), (6, rV 2 0), (7, bV true), (11, sV .i64 (kB a n) (kK a n)), (12, uV (kK a n)), (13, uV k), (18, sV .i64 (kB b m) (kK b m)), (19, uV (kK b m)), (20, iV (↑j + 1))] ⟨by omega, by omega⟩ ?_
    exact kX ⟨(((j + 1) : Nat), (true : Bool)), ⟨zo, (by exact hJ.stay (k8 hb) zo)⟩⟩ [] (P := (kG 0) ∧ (kG 0) ∧ ((true) = true) ∧ (kJ (dI .i64 (kB a n))) ∧ (kG (kK a n)) ∧ (kM (kK a n : Int)) ∧ (kM (k : Int)) ∧ (kJ (dI .i64 (kB b m))) ∧ (kG (kK b m)) ∧ (kM (kK b m : Int)) ∧ (((((j + 1) : Nat) : Int) : Int) = ((j : Int) + 1)) ∧ (kJ [dl b m]) ∧ (kJ [iD (ka1 (kB a n) (k * 2) 0), iD (ka1 (kB a n) ((k * 2) + 1) 0)])) zk ⟨rfl, rfl, (by rfl), rfl, rfl, rfl, rfl, rfl, rfl, rfl, (by rfl), rfl, rfl⟩ (show kK b m - (j + 1) < kK b m - j from zo)
   ·subst hx7
    by_cases hx8 : ((ka1 (kB b m) (j * 2) 0) ≤ (ka1 (kB a n) (k * 2) 0))
    ·by_cases hx9 : ((ka1 (kB a n) ((k * 2) + 1) 0) ≤ (ka1 (kB b m) ((j * 2) + 1) 0))
     ·refine aD (kT 6 (.b true :: kT 5 [.b true, .no, .no, .no])) ((((ka1 (kB b m) (j * 2) 0) ≤ (ka1 (kB a n) (k * 2) 0))) ∧ (((ka1 (kB a n) ((k * 2) + 1) 0) ≤ (ka1 (kB b m) ((j * 2) + 1) 0)))) [(3, rV 1 0), (6, rV 2 0), (7, bV true), (11, sV .i64 (kB a n) (kK a n)), (12, uV (kK a n)), (13, uV k), (18, sV .i64 (kB b m) (kK b m)), (19, uV (kK b m)), (20, uV j)] [(1, some (56, .ds [dl b m])), (2, some (77, (cW a n k)))] 4 ⟨zo, zo⟩ ?_
      refine uJ [.w, .no] ((-9223372036854775808) ≤ ((j : Int) + 1) ∧ ((j : Int) + 1) ≤ 9223372036854775807) [(3, rV 1 0), (6, rV 2 0), (7, bV true), (11, sV .i64 (kB a n) (kK a n)), (12, uV (kK a n)), (13, uV k), (18, sV .i64 (kB b m) (kK b m)), (19, uV (kK b m)), (20, iV (↑j + 1))] ⟨by omega, by omega⟩ ?_
      exact kX ⟨(((j + 1) : Nat), (true : Bool)), ⟨zo, (by exact hJ.yes (k8 hb) zo zo)⟩⟩ [] (P := (kG 0) ∧ (kG 0) ∧ ((true) = true) ∧ (kJ (dI .i64 (kB a n))) ∧ (kG (kK a n)) ∧ (kM (kK a n : Int)) ∧ (kM (k : Int)) ∧ (kJ (dI .i64 (kB b m))) ∧ (kG (kK b m)) ∧ (kM (kK b m : Int)) ∧ (((((j + 1) : Nat) : Int) : Int) = ((j : Int) + 1)) ∧ (kJ [dl b m]) ∧ (kJ [iD (ka1 (kB a n) (k * 2) 0), iD (ka1 (kB a n) ((k * 2) + 1) 0)])) zk ⟨rfl, rfl, (by rfl), rfl, rfl, rfl, rfl, rfl, rfl, rfl, (by rfl), rfl, rfl⟩ (show kK b m - (j + 1) < kK b m - j from zo)
     ·refine aD (kT 6 (.b true :: kT 5 [.b false, .no, .no, .no])) ((((ka1 (kB b m) (j * 2) 0) ≤ (ka1 (kB a n) (k * 2) 0))) ∧ (¬ ((ka1 (kB a n) ((k * 2) + 1) 0) ≤ (ka1 (kB b m) ((j * 2) + 1) 0)))) [(3, rV 1 0), (6, rV 2 0), (7, bV false), (11, sV .i64 (kB a n) (kK a n)), (12, uV (kK a n)), (13, uV k), (18, sV .i64 (kB b m) (kK b m)), (19, uV (kK b m)), (20, uV j)] [(1, some (56, .ds [dl b m])), (2, some (77, (cW a n k)))] 4 ⟨zo, zo⟩ ?_
      refine uJ [.w, .no] ((-9223372036854775808) ≤ ((j : Int) + 1) ∧ ((j : Int) + 1) ≤ 9223372036854775807) [(3, rV 1 0), (6, rV 2 0), (7, bV false), (11, sV .i64 (kB a n) (kK a n)), (12, uV (kK a n)), (13, uV k), (18, sV .i64 (kB b m) (kK b m)), (19, uV (kK b m)), (20, iV (↑j + 1))] ⟨by omega, by omega⟩ ?_
      exact kX ⟨(((j + 1) : Nat), (false : Bool)), ⟨zo, (by exact hJ.no (k8 hb) zo zo)⟩⟩ [] (P := (kG 0) ∧ (kG 0) ∧ ((false) = false) ∧ (kJ (dI .i64 (kB a n))) ∧ (kG (kK a n)) ∧ (kM (kK a n : Int)) ∧ (kM (k : Int)) ∧ (kJ (dI .i64 (kB b m))) ∧ (kG (kK b m)) ∧ (kM (kK b m : Int)) ∧ (((((j + 1) : Nat) : Int) : Int) = ((j : Int) + 1)) ∧ (kJ [dl b m]) ∧ (kJ [iD (ka1 (kB a n) (k * 2) 0), iD (ka1 (kB a n) ((k * 2) + 1) 0)])) zk ⟨rfl, rfl, (by rfl), rfl, rfl, rfl, rfl, rfl, rfl, rfl, (by rfl), rfl, rfl⟩ (show kK b m - (j + 1) < kK b m - j from zo)
    ·refine aD (kT 6 (.b false :: kT 4 [])) (¬ ((ka1 (kB b m) (j * 2) 0) ≤ (ka1 (kB a n) (k * 2) 0))) [(3, rV 1 0), (6, rV 2 0), (7, bV false), (11, sV .i64 (kB a n) (kK a n)), (12, uV (kK a n)), (13, uV k), (18, sV .i64 (kB b m) (kK b m)), (19, uV (kK b m)), (20, uV j)] [(1, some (56, .ds [dl b m])), (2, some (77, (cW a n k)))] 4 zo ?_
     refine uJ [.w, .no] ((-9223372036854775808) ≤ ((j : Int) + 1) ∧ ((j : Int) + 1) ≤ 9223372036854775807) [(3, rV 1 0), (6, rV 2 0), (7, bV false), (11, sV .i64 (kB a n) (kK a n)), (12, uV (kK a n)), (13, uV k), (18, sV .i64 (kB b m) (kK b m)), (19, uV (kK b m)), (20, iV (↑j + 1))] ⟨by omega, by omega⟩ ?_
     exact kX ⟨(((j + 1) : Nat), (false : Bool)), ⟨zo, (by exact hJ.no (k8 hb) zo zo)⟩⟩ [] (P := (kG 0) ∧ (kG 0) ∧ ((false) = false) ∧ (kJ (dI .i64 (kB a n))) ∧ (kG (kK a n)) ∧ (kM (kK a n : Int)) ∧ (kM (k : Int)) ∧ (kJ (dI .i64 (kB b m))) ∧ (kG (kK b m)) ∧ (kM (kK b m : Int)) ∧ (((((j + 1) : Nat) : Int) : Int) = ((j : Int) + 1)) ∧ (kJ [dl b m]) ∧ (kJ [iD (ka1 (kB a n) (k * 2) 0), iD (ka1 (kB a n) ((k * 2) + 1) 0)])) zk ⟨rfl, rfl, (by rfl), rfl, rfl, rfl, rfl, rfl, rfl, rfl, (by rfl), rfl, rfl⟩ (show kK b m - (j + 1) < kK b m - j from zo)
  ·have hx10 := hJ.fin (k8 hb) zo
   refine kI [.b false] (¬ ((j : Int) < (kK b m : Int))) [(3, rV 1 0), (6, rV 2 0), (7, qS (D.lit (.bool (f)))), (11, sV .i64 (kB a n) (kK a n)), (12, uV (kK a n)), (13, uV k), (18, sV .i64 (kB b m) (kK b m)), (19, uV (kK b m)), (20, uV j), (21, bV false)] [(1, some (56, .ds [dl b m])), (2, some (77, (cW a n k)))] 3 zo ?_
   refine AW.seq ?_
   refine zf ?_
   refine AW.exit ?_
   rcases ka6 (f) with hx12 | hx12
   ·subst hx12
    have hx13 := hJ.fin (k8 hb) zo
    refine kI [.no, .no] True [(3, rV 1 0), (11, sV .i64 (kB a n) (kK a n)), (12, uV (kK a n)), (13, uV k), (41, bV false)] [(1, some (56, .ds [dl b m]))] 3 trivial ?_
    refine q8 ?_
    have hx14 := hJ.fin (k8 hb) zo
    refine uJ [.w, .no] ((-9223372036854775808) ≤ ((k : Int) + 1) ∧ ((k : Int) + 1) ≤ 9223372036854775807) [(3, rV 1 0), (11, sV .i64 (kB a n) (kK a n)), (12, uV (kK a n)), (13, iV (↑k + 1))] ⟨by omega, by omega⟩ ?_
    exact kX ⟨((k + 1) : Nat), ⟨zo, (fun j hj => (Nat.lt_succ_iff_lt_or_eq.1 hj).elim (hq j) (fun e9 => by subst e9; assumption))⟩⟩ [] (P := (kG 0) ∧ (kJ (dI .i64 (kB a n))) ∧ (kG (kK a n)) ∧ (kM (kK a n : Int)) ∧ (((((k + 1) : Nat) : Int) : Int) = ((k : Int) + 1)) ∧ (kJ [dl b m])) zk ⟨rfl, rfl, rfl, rfl, (by rfl), rfl⟩ (show kK a n - (k + 1) < kK a n - k from zo)
   ·subst hx12
    have hx15 := hJ.fin (k8 hb) zo
    refine kI [.no, .no] True [(3, rV 1 0), (11, sV .i64 (kB a n) (kK a n)), (12, uV (kK a n)), (13, uV k), (41, bV true)] [(1, some (56, .ds [dl b m]))] 3 trivial ?_
    refine zt ?_
    have hx16 := hJ.fin (k8 hb) zo
    refine kI [.no] True [(4, bV false)] [] 3 trivial ?_
    refine AW.ret ?_
    exact kC (.inr rfl) [] (P := ((n4 (kB a n) (kB b m)) = false)) zk (by exact u5i (k := k) (k8 ha) zo (by assumption))
 ·refine kI [.b false] (¬ ((k : Int) < (kK a n : Int))) [(3, rV 1 0), (11, sV .i64 (kB a n) (kK a n)), (12, uV (kK a n)), (13, uV k), (14, bV false)] [(1, some (56, .ds [dl b m]))] 2 zo ?_
  refine AW.seq ?_
  refine zf ?_
  refine AW.exit ?_
  refine kI [.no] True [(4, bV true)] [] 2 trivial ?_
  refine AW.ret ?_
  exact kC (.inr rfl) [] (P := ((n4 (kB a n) (kB b m)) = true)) zk (by exact u5h (k8 ha) (fun j hj => hq j zo))
theorem sP (a b : Int) (ha : -9223372036854775808 ≤ a ∧ a ≤ 9223372036854775807) (hb : -9223372036854775808 ≤ b ∧ b ≤ 9223372036854775807) : Fun 137 [iE a, iE b] (kE []) 0 (qS (D.lit (.int .u64 (bN a b)))) (kE []) 0 := by
 refine Fun.mk (n := 18) Tryz.func137 rfl rfl (ka4 rfl) ?_
 intro cx hcx
 refine kI [.no] True [(0, iV a), (1, iV b)] [] 0 trivial ?_
 refine AW.seq ?_
 by_cases hx1 : (b < a)
 ·refine kN [.no, .no, .b true] ((b < a)) [(0, iV a), (1, iV b), (7, bV true)] zo ?_
  refine zt ?_
  refine kN [.no, .i (a % 18446744073709551616), .no, .i (b % 18446744073709551616), .i (a - b), .no] ((IntKind.u64.wrap (a : Int) = (a % 18446744073709551616)) ∧ (IntKind.u64.wrap (b : Int) = (b % 18446744073709551616)) ∧ (IntKind.u64.wrap (((a % 18446744073709551616) - (b % 18446744073709551616)) : Int) = (a - b))) [(4, qS (D.lit (.int .u64 (a - b))))] ⟨(vH _), (vH _), (by rw [vH]; omega)⟩ ?_
  refine AW.ret ?_
  exact kC (.inr rfl) [] (P := (((bN a b) : Int) = (a - b))) zk (by unfold bN; split <;> omega)
 ·refine kN [.no, .no, .b false] (¬ (b < a)) [(0, iV a), (1, iV b), (7, bV false)] zo ?_
  refine q8 ?_
  refine kN [.no, .i (b % 18446744073709551616), .no, .i (a % 18446744073709551616), .i (b - a), .no] ((IntKind.u64.wrap (b : Int) = (b % 18446744073709551616)) ∧ (IntKind.u64.wrap (a : Int) = (a % 18446744073709551616)) ∧ (IntKind.u64.wrap (((b % 18446744073709551616) - (a % 18446744073709551616)) : Int) = (b - a))) [(4, qS (D.lit (.int .u64 (b - a))))] ⟨(vH _), (vH _), (by rw [vH]; omega)⟩ ?_
  refine AW.ret ?_
  exact kC (.inr rfl) [] (P := (((bN a b) : Int) = (b - a))) zk (by unfold bN; split <;> omega)
theorem sQ (a b : Int) (ha : -9223372036854775808 ≤ a ∧ a ≤ 9223372036854775807) (hb : -9223372036854775808 ≤ b ∧ b ≤ 9223372036854775807) : Fun 138 [iE a, iE b] (kE []) 0 (qS (D.lit (.int .u64 (bN a b)))) (kE []) 0 := by
 refine Fun.mk (n := 18) Tryz.func138 rfl rfl (ka4 rfl) ?_
 intro cx hcx
 refine kI [.no] True [(0, iV a), (1, iV b)] [] 0 trivial ?_
 refine AW.seq ?_
 by_cases hx1 : (a < b)
 ·refine kN [.no, .no, .b true] ((a < b)) [(0, iV a), (1, iV b), (7, bV true)] zo ?_
  refine zt ?_
  refine kN [.no, .i (b % 18446744073709551616), .no, .i (a % 18446744073709551616), .i (b - a), .no] ((IntKind.u64.wrap (b : Int) = (b % 18446744073709551616)) ∧ (IntKind.u64.wrap (a : Int) = (a % 18446744073709551616)) ∧ (IntKind.u64.wrap (((b % 18446744073709551616) - (a % 18446744073709551616)) : Int) = (b - a))) [(4, qS (D.lit (.int .u64 (b - a))))] ⟨(vH _), (vH _), (by rw [vH]; omega)⟩ ?_
  refine AW.ret ?_
  exact kC (.inr rfl) [] (P := (((bN a b) : Int) = (b - a))) zk (by unfold bN; split <;> omega)
 ·refine kN [.no, .no, .b false] (¬ (a < b)) [(0, iV a), (1, iV b), (7, bV false)] zo ?_
  refine q8 ?_
  refine kN [.no, .i (a % 18446744073709551616), .no, .i (b % 18446744073709551616), .i (a - b), .no] ((IntKind.u64.wrap (a : Int) = (a % 18446744073709551616)) ∧ (IntKind.u64.wrap (b : Int) = (b % 18446744073709551616)) ∧ (IntKind.u64.wrap (((a % 18446744073709551616) - (b % 18446744073709551616)) : Int) = (a - b))) [(4, qS (D.lit (.int .u64 (a - b))))] ⟨(vH _), (vH _), (by rw [vH]; omega)⟩ ?_
  refine AW.ret ?_
  exact kC (.inr rfl) [] (P := (((bN a b) : Int) = (a - b))) zk (by unfold bN; split <;> omega)
theorem k75 (l : List Int) (n : Nat) (z : Int) (hl : ka0 l = n * 2) (hb : n ≤ 9223372036854775807) (hz : -9223372036854775808 ≤ z ∧ z ≤ 9223372036854775807) : Fun 100 [.agg [.d (D.sl (dI .i64 l) n)], iE z] (kE []) 0 (.tup [iE (uF z (kB l n)), .c (.d (D.lit (.bool (nrF z (kB l n)))))]) (kE []) 0 := by
 refine Fun.mk (n := 40) Tryz.func100 rfl rfl (ka4 rfl) ?_
 intro cx hcx
 refine kI [.no, .no, .no] True [(1, iV z), (2, rV 0 0)] [(0, some (56, .ds [dl l n]))] 1 trivial ?_
 refine kN [.no, .no] True [(1, iV z), (2, rV 0 0), (6, iV 0), (7, bV false)] trivial ?_
 refine AW.seq ?_
 have hx1 : ((ka0 (kB l n)) = ((kK l n) * 2)) := k8 (zo)
 have hx2 : (((kK l n) ≤ 64) ∧ ((kK l n) ≤ n)) := bD
 refine kI [.no, .call [] (sV .i64 (kB l n) (kK l n)) [] 0 [] none, .no, .no] _ [(1, iV z), (6, iV 0), (7, bV false), (12, sV .i64 (kB l n) (kK l n)), (13, uV (kK l n)), (14, iV 0)] [] 1 (f5 l n zo zo) ?_
 refine AW.block ?_
 refine kU 0 hcx (fun (x : {x : Nat × Int × Bool // match x with | (i, y, f) => (i ≤ kK l n ∧ -9223372036854775808 ≤ y ∧ y ≤ 9223372036854775807) ∧ (NR z (kB l n) i y f)}) => match x with | ⟨(i, y, f), _⟩ => (⟨[(1, iV z), (6, iV y), (7, qS (D.lit (.bool (f)))), (12, sV .i64 (kB l n) (kK l n)), (13, uV (kK l n)), (14, uV i)], [], 1⟩ : ES)) (fun x => match x with | ⟨(i, y, f), _⟩ => kK l n - i) ⟨((0 : Nat), (0 : Int), (false : Bool)), ⟨zo, (NR.zero _ _)⟩⟩ [] (P := (kM z) ∧ (kM 0) ∧ ((false) = false) ∧ (kJ (dI .i64 (kB l n))) ∧ (kG (kK l n)) ∧ (kM (kK l n : Int)) ∧ (kM 0)) zk ⟨rfl, rfl, (by rfl), rfl, rfl, rfl, rfl⟩ ?_
 rintro ⟨⟨i, y, f⟩, hinv0⟩
 obtain ⟨hi, hN⟩ : (i ≤ kK l n ∧ -9223372036854775808 ≤ y ∧ y ≤ 9223372036854775807) ∧ (NR z (kB l n) i y f) := hinv0
 refine qN (l := [(1, iV z), (6, iV y), (7, qS (D.lit (.bool (f)))), (12, sV .i64 (kB l n) (kK l n)), (13, uV (kK l n)), (14, uV i)]) (g := []) (nx := 1) rfl rfl rfl ?_
 by_cases hx3 : (((i : Nat) : Int) < (((kK l n) : Nat) : Int))
 ·have hx4 : 0 ≤ ka1 (kB l n) (i * 2) 0 ∧ ka1 (kB l n) (i * 2) 0 ≤ ka1 (kB l n) (i * 2 + 1) 0 ∧ ka1 (kB l n) (i * 2 + 1) 0 ≤ 2147483647 := k9z hl i zo
  refine kI [.b true] (((i : Int) < (kK l n : Int))) [(1, iV z), (6, iV y), (7, qS (D.lit (.bool (f)))), (12, sV .i64 (kB l n) (kK l n)), (13, uV (kK l n)), (14, uV i), (15, bV true)] [] 1 zo ?_
  refine AW.seq ?_
  refine yW ?_
  refine AW.seq ?_
  refine AW.block ?_
  refine kI [.n i, .ds [iD (ka1 (kB l n) (i * 2) 0), iD (ka1 (kB l n) ((i * 2) + 1) 0)], .no, .no] ((kM (i : Int)) ∧ (i < (kK l n)) ∧ (ka5 2 (ka3 (i * 2) (dI .i64 (kB l n))) = [iD (ka1 (kB l n) (i * 2) 0), iD (ka1 (kB l n) ((i * 2) + 1) 0)]) ∧ (([iD (ka1 (kB l n) (i * 2) 0), iD (ka1 (kB l n) ((i * 2) + 1) 0)] : List D).length = 2)) [(1, iV z), (6, iV y), (7, qS (D.lit (.bool (f)))), (9, rV 1 0), (12, sV .i64 (kB l n) (kK l n)), (13, uV (kK l n)), (14, uV i)] [(1, some (77, .ds [iD (ka1 (kB l n) (i * 2) 0), iD (ka1 (kB l n) ((i * 2) + 1) 0)]))] 2 ⟨rfl, zo, (yN .i64 (kB l n) (i * 2) 2 zo), rfl⟩ ?_
  refine kI (kT 8 []) True [(1, iV z), (6, iV y), (7, qS (D.lit (.bool (f)))), (10, iV (min (max z (ka1 (kB l n) (i * 2) 0)) (ka1 (kB l n) ((i * 2) + 1) 0))), (12, sV .i64 (kB l n) (kK l n)), (13, uV (kK l n)), (14, uV i)] [] 2 trivial ?_
  rcases ka6 (f) with hx5 | hx5
  ·subst hx5
   by_cases hx8 : ((bN (min (max z (ka1 (kB l n) (i * 2) 0)) (ka1 (kB l n) ((i * 2) + 1) 0)) z) < (bN y z))
   ·have hx9 : ((0 : Int) ≤ (bN (min (max z (ka1 (kB l n) (i * 2) 0)) (ka1 (kB l n) ((i * 2) + 1) 0)) z)) := fG
    have hx10 : ((0 : Int) ≤ (bN y z)) := fG
    refine kI (kT 5 [.call [] (qS (D.lit (.int .u64 (bN (min (max z (ka1 (kB l n) (i * 2) 0)) (ka1 (kB l n) ((i * 2) + 1) 0)) z)))) [] 0 [] none, .no, .no, .call [] (qS (D.lit (.int .u64 (bN y z)))) [] 0 [] none, .b true, .no]) ((_) ∧ (_) ∧ (((bN (min (max z (ka1 (kB l n) (i * 2) 0)) (ka1 (kB l n) ((i * 2) + 1) 0)) z) < (bN y z)))) [(1, iV z), (6, iV y), (7, bV true), (10, iV (min (max z (ka1 (kB l n) (i * 2) 0)) (ka1 (kB l n) ((i * 2) + 1) 0))), (12, sV .i64 (kB l n) (kK l n)), (13, uV (kK l n)), (14, uV i), (35, bV true)] [] 2 ⟨(sP (min (max z (ka1 (kB l n) (i * 2) 0)) (ka1 (kB l n) ((i * 2) + 1) 0)) z zo zo), (sP y z zo zo), zo⟩ ?_
    refine zt ?_
    refine uJ [.no, .no, .no] True [(1, iV z), (6, iV (min (max z (ka1 (kB l n) (i * 2) 0)) (ka1 (kB l n) ((i * 2) + 1) 0))), (7, bV true), (12, sV .i64 (kB l n) (kK l n)), (13, uV (kK l n)), (14, uV i)] trivial ?_
    refine uJ [.w, .no] ((-9223372036854775808) ≤ ((i : Int) + 1) ∧ ((i : Int) + 1) ≤ 9223372036854775807) [(1, iV z), (6, iV (min (max z (ka1 (kB l n) (i * 2) 0)) (ka1 (kB l n) ((i * 2) + 1) 0))), (7, bV true), (12, sV .i64 (kB l n) (kK l n)), (13, uV (kK l n)), (14, iV (↑i + 1))] ⟨by omega, by omega⟩ ?_
    exact kX ⟨(((i + 1) : Nat), ((min (max z (ka1 (kB l n) (i * 2) 0)) (ka1 (kB l n) ((i * 2) + 1) 0)) : Int), (true : Bool)), ⟨zo, (by first | exact hN.first (k8 hl) zo (by show _ = max _ (min _ z); (simp only; omega)) | exact hN.near (k8 hl) zo (by show _ = max _ (min _ z); (simp only; omega)) zo | exact hN.far (k8 hl) zo (by assumption) (by show _ = max _ (min _ z); first | (simp only; done) | (simp only; omega) | omega))⟩⟩ [] (P := (kM z) ∧ (kM (min (max z (ka1 (kB l n) (i * 2) 0)) (ka1 (kB l n) ((i * 2) + 1) 0))) ∧ ((true) = true) ∧ (kJ (dI .i64 (kB l n))) ∧ (kG (kK l n)) ∧ (kM (kK l n : Int)) ∧ (((((i + 1) : Nat) : Int) : Int) = ((i : Int) + 1))) zk ⟨rfl, rfl, (by rfl), rfl, rfl, rfl, (by rfl)⟩ (show kK l n - (i + 1) < kK l n - i from zo)
   ·have hx11 : ((0 : Int) ≤ (bN (min (max z (ka1 (kB l n) (i * 2) 0)) (ka1 (kB l n) ((i * 2) + 1) 0)) z)) := fG
    have hx12 : ((0 : Int) ≤ (bN y z)) := fG
    refine kI (kT 5 [.call [] (qS (D.lit (.int .u64 (bN (min (max z (ka1 (kB l n) (i * 2) 0)) (ka1 (kB l n) ((i * 2) + 1) 0)) z)))) [] 0 [] none, .no, .no, .call [] (qS (D.lit (.int .u64 (bN y z)))) [] 0 [] none, .b false, .no]) ((_) ∧ (_) ∧ (¬ ((bN (min (max z (ka1 (kB l n) (i * 2) 0)) (ka1 (kB l n) ((i * 2) + 1) 0)) z) < (bN y z)))) [(1, iV z), (6, iV y), (7, bV true), (10, iV (min (max z (ka1 (kB l n) (i * 2) 0)) (ka1 (kB l n) ((i * 2) + 1) 0))), (12, sV .i64 (kB l n) (kK l n)), (13, uV (kK l n)), (14, uV i), (35, bV false)] [] 2 ⟨(sP (min (max z (ka1 (kB l n) (i * 2) 0)) (ka1 (kB l n) ((i * 2) + 1) 0)) z zo zo), (sP y z zo zo), zo⟩ ?_
    refine q8 ?_
    refine uJ [.w, .no] ((-9223372036854775808) ≤ ((i : Int) + 1) ∧ ((i : Int) + 1) ≤ 9223372036854775807) [(1, iV z), (6, iV y), (7, bV true), (12, sV .i64 (kB l n) (kK l n)), (13, uV (kK l n)), (14, iV (↑i + 1))] ⟨by omega, by omega⟩ ?_
    exact kX ⟨(((i + 1) : Nat), (y : Int), (true : Bool)), ⟨zo, (by first | exact hN.first (k8 hl) zo (by show _ = max _ (min _ z); first | (simp only; done) | (simp only; omega) | omega) | exact hN.near (k8 hl) zo (by show _ = max _ (min _ z); first | (simp only; done) | (simp only; omega) | omega) zo | exact hN.far (k8 hl) zo (by assumption) (by show _ = max _ (min _ z); (simp only; omega)))⟩⟩ [] (P := (kM z) ∧ (kM y) ∧ ((true) = true) ∧ (kJ (dI .i64 (kB l n))) ∧ (kG (kK l n)) ∧ (kM (kK l n : Int)) ∧ (((((i + 1) : Nat) : Int) : Int) = ((i : Int) + 1))) zk ⟨rfl, rfl, (by rfl), rfl, rfl, rfl, (by rfl)⟩ (show kK l n - (i + 1) < kK l n - i from zo)
  ·subst hx5
   refine kI (kT 4 []) True [(1, iV z), (6, iV y), (7, bV false), (10, iV (min (max z (ka1 (kB l n) (i * 2) 0)) (ka1 (kB l n) ((i * 2) + 1) 0))), (12, sV .i64 (kB l n) (kK l n)), (13, uV (kK l n)), (14, uV i), (35, bV true)] [] 2 trivial ?_
   refine zt ?_
   refine uJ [.no, .no, .no] True [(1, iV z), (6, iV (min (max z (ka1 (kB l n) (i * 2) 0)) (ka1 (kB l n) ((i * 2) + 1) 0))), (7, bV true), (12, sV .i64 (kB l n) (kK l n)), (13, uV (kK l n)), (14, uV i)] trivial ?_
   refine uJ [.w, .no] ((-9223372036854775808) ≤ ((i : Int) + 1) ∧ ((i : Int) + 1) ≤ 9223372036854775807) [(1, iV z), (6, iV (min (max z (ka1 (kB l n) (i * 2) 0)) (ka1 (kB l n) ((i * 2) + 1) 0))), (7, bV true), (12, sV .i64 (kB l n) (kK l n)), (13, uV (kK l n)), (14, iV (↑i + 1))] ⟨by omega, by omega⟩ ?_
   exact kX ⟨(((i + 1) : Nat), ((min (max z (ka1 (kB l n) (i * 2) 0)) (ka1 (kB l n) ((i * 2) + 1) 0)) : Int), (true : Bool)), ⟨zo, (by first | exact hN.first (k8 hl) zo (by show _ = max _ (min _ z); (simp only; omega)) | exact hN.near (k8 hl) zo (by show _ = max _ (min _ z); first | (simp only; done) | (simp only; omega) | omega) zo | exact hN.far (k8 hl) zo (by assumption) (by show _ = max _ (min _ z); first | (simp only; done) | (simp only; omega) | omega))⟩⟩ [] (P := (kM z) ∧ (kM (min (max z (ka1 (kB l n) (i * 2) 0)) (ka1 (kB l n) ((i * 2) + 1) 0))) ∧ ((true) = true) ∧ (kJ (dI .i64 (kB l n))) ∧ (kG (kK l n)) ∧ (kM (kK l n : Int)) ∧ (((((i + 1) : Nat) : Int) : Int) = ((i : Int) + 1))) zk ⟨rfl, rfl, (by rfl), rfl, rfl, rfl, (by rfl)⟩ (show kK l n - (i + 1) < kK l n - i from zo)
 ·refine kI [.b false] (¬ ((i : Int) < (kK l n : Int))) [(1, iV z), (6, iV y), (7, qS (D.lit (.bool (f)))), (12, sV .i64 (kB l n) (kK l n)), (13, uV (kK l n)), (14, uV i), (15, bV false)] [] 1 zo ?_
  refine AW.seq ?_
  refine zf ?_
  refine AW.exit ?_
  refine kI (kT 4 []) True [(4, iV y), (5, qS (D.lit (.bool (f))))] [] 1 trivial ?_
  obtain ⟨hz1, hz2⟩ := hN.fin (k8 hl) zo
  refine AW.ret ?_
  exact kC (.inr rfl) [] (P := (((uF z (kB l n)) : Int) = y) ∧ ((nrF z (kB l n)) = (f))) zk ⟨zo, hz2⟩
theorem k1h (l : List Int) (n : Nat) (z : Int) (hl : ka0 l = n * 2) (hb : n ≤ 9223372036854775807) (hz : -9223372036854775808 ≤ z ∧ z ≤ 9223372036854775807) : Fun 104 [.agg [.d (D.sl (dI .i64 l) n)], iE z] (kE []) 0 (.tup [iE (uF z (kB l n)), .c (.d (D.lit (.bool (nrF z (kB l n)))))]) (kE []) 0 := by
 refine Fun.mk (n := 40) Tryz.func104 rfl rfl (ka4 rfl) ?_
 intro cx hcx
 refine kI [.no, .no, .no] True [(1, iV z), (2, rV 0 0)] [(0, some (56, .ds [dl l n]))] 1 trivial ?_
 refine kN [.no, .no] True [(1, iV z), (2, rV 0 0), (6, iV 0), (7, bV false)] trivial ?_
 refine AW.seq ?_
 have hx1 : ((ka0 (kB l n)) = ((kK l n) * 2)) := k8 (zo)
 have hx2 : (((kK l n) ≤ 64) ∧ ((kK l n) ≤ n)) := bD
 refine kI [.no, .call [] (sV .i64 (kB l n) (kK l n)) [] 0 [] none, .no, .no] _ [(1, iV z), (6, iV 0), (7, bV false), (12, sV .i64 (kB l n) (kK l n)), (13, uV (kK l n)), (14, iV 0)] [] 1 (dO l n zo zo) ?_
 refine AW.block ?_
 refine kU 0 hcx (fun (x : {x : Nat × Int × Bool // match x with | (i, y, f) => (i ≤ kK l n ∧ -9223372036854775808 ≤ y ∧ y ≤ 9223372036854775807) ∧ (NR z (kB l n) i y f)}) => match x with | ⟨(i, y, f), _⟩ => (⟨[(1, iV z), (6, iV y), (7, qS (D.lit (.bool (f)))), (12, sV .i64 (kB l n) (kK l n)), (13, uV (kK l n)), (14, uV i)], [], 1⟩ : ES)) (fun x => match x with | ⟨(i, y, f), _⟩ => kK l n - i) ⟨((0 : Nat), (0 : Int), (false : Bool)), ⟨zo, (NR.zero _ _)⟩⟩ [] (P := (kM z) ∧ (kM 0) ∧ ((false) = false) ∧ (kJ (dI .i64 (kB l n))) ∧ (kG (kK l n)) ∧ (kM (kK l n : Int)) ∧ (kM 0)) zk ⟨rfl, rfl, (by rfl), rfl, rfl, rfl, rfl⟩ ?_
 rintro ⟨⟨i, y, f⟩, hinv0⟩
 obtain ⟨hi, hN⟩ : (i ≤ kK l n ∧ -9223372036854775808 ≤ y ∧ y ≤ 9223372036854775807) ∧ (NR z (kB l n) i y f) := hinv0
 refine qN (l := [(1, iV z), (6, iV y), (7, qS (D.lit (.bool (f)))), (12, sV .i64 (kB l n) (kK l n)), (13, uV (kK l n)), (14, uV i)]) (g := []) (nx := 1) rfl rfl rfl ?_
 by_cases hx3 : (((i : Nat) : Int) < (((kK l n) : Nat) : Int))
 ·have hx4 : 0 ≤ ka1 (kB l n) (i * 2) 0 ∧ ka1 (kB l n) (i * 2) 0 ≤ ka1 (kB l n) (i * 2 + 1) 0 ∧ ka1 (kB l n) (i * 2 + 1) 0 ≤ 2147483647 := k9z hl i zo
  refine kI [.b true] (((i : Int) < (kK l n : Int))) [(1, iV z), (6, iV y), (7, qS (D.lit (.bool (f)))), (12, sV .i64 (kB l n) (kK l n)), (13, uV (kK l n)), (14, uV i), (15, bV true)] [] 1 zo ?_
  refine AW.seq ?_
  refine yW ?_
  refine AW.seq ?_
  refine AW.block ?_
  refine kI [.n i, .ds [iD (ka1 (kB l n) (i * 2) 0), iD (ka1 (kB l n) ((i * 2) + 1) 0)], .no, .no] ((kM (i : Int)) ∧ (i < (kK l n)) ∧ (ka5 2 (ka3 (i * 2) (dI .i64 (kB l n))) = [iD (ka1 (kB l n) (i * 2) 0), iD (ka1 (kB l n) ((i * 2) + 1) 0)]) ∧ (([iD (ka1 (kB l n) (i * 2) 0), iD (ka1 (kB l n) ((i * 2) + 1) 0)] : List D).length = 2)) [(1, iV z), (6, iV y), (7, qS (D.lit (.bool (f)))), (9, rV 1 0), (12, sV .i64 (kB l n) (kK l n)), (13, uV (kK l n)), (14, uV i)] [(1, some (77, .ds [iD (ka1 (kB l n) (i * 2) 0), iD (ka1 (kB l n) ((i * 2) + 1) 0)]))] 2 ⟨rfl, zo, (yN .i64 (kB l n) (i * 2) 2 zo), rfl⟩ ?_
  refine kI (kT 8 []) True [(1, iV z), (6, iV y), (7, qS (D.lit (.bool (f)))), (10, iV (max (ka1 (kB l n) (i * 2) 0) (min (ka1 (kB l n) ((i * 2) + 1) 0) z))), (12, sV .i64 (kB l n) (kK l n)), (13, uV (kK l n)), (14, uV i)] [] 2 trivial ?_
  rcases ka6 (f) with hx5 | hx5
  ·subst hx5
   by_cases hx8 : ((bN (max (ka1 (kB l n) (i * 2) 0) (min (ka1 (kB l n) ((i * 2) + 1) 0) z)) z) < (bN y z))
   ·have hx9 : ((0 : Int) ≤ (bN (max (ka1 (kB l n) (i * 2) 0) (min (ka1 (kB l n) ((i * 2) + 1) 0) z)) z)) := fG
    have hx10 : ((0 : Int) ≤ (bN y z)) := fG
    refine kI (kT 5 [.call [] (qS (D.lit (.int .u64 (bN (max (ka1 (kB l n) (i * 2) 0) (min (ka1 (kB l n) ((i * 2) + 1) 0) z)) z)))) [] 0 [] none, .no, .no, .call [] (qS (D.lit (.int .u64 (bN y z)))) [] 0 [] none, .b true, .no]) ((_) ∧ (_) ∧ (((bN (max (ka1 (kB l n) (i * 2) 0) (min (ka1 (kB l n) ((i * 2) + 1) 0) z)) z) < (bN y z)))) [(1, iV z), (6, iV y), (7, bV true), (10, iV (max (ka1 (kB l n) (i * 2) 0) (min (ka1 (kB l n) ((i * 2) + 1) 0) z))), (12, sV .i64 (kB l n) (kK l n)), (13, uV (kK l n)), (14, uV i), (35, bV true)] [] 2 ⟨(sQ (max (ka1 (kB l n) (i * 2) 0) (min (ka1 (kB l n) ((i * 2) + 1) 0) z)) z zo zo), (sQ y z zo zo), zo⟩ ?_
    refine zt ?_
    refine uJ [.no, .no, .no] True [(1, iV z), (6, iV (max (ka1 (kB l n) (i * 2) 0) (min (ka1 (kB l n) ((i * 2) + 1) 0) z))), (7, bV true), (12, sV .i64 (kB l n) (kK l n)), (13, uV (kK l n)), (14, uV i)] trivial ?_
    refine uJ [.w, .no] ((-9223372036854775808) ≤ ((i : Int) + 1) ∧ ((i : Int) + 1) ≤ 9223372036854775807) [(1, iV z), (6, iV (max (ka1 (kB l n) (i * 2) 0) (min (ka1 (kB l n) ((i * 2) + 1) 0) z))), (7, bV true), (12, sV .i64 (kB l n) (kK l n)), (13, uV (kK l n)), (14, iV (↑i + 1))] ⟨by omega, by omega⟩ ?_
    exact kX ⟨(((i + 1) : Nat), ((max (ka1 (kB l n) (i * 2) 0) (min (ka1 (kB l n) ((i * 2) + 1) 0) z)) : Int), (true : Bool)), ⟨zo, (by first | exact hN.first (k8 hl) zo (by show _ = max _ (min _ z); (simp only; done)) | exact hN.near (k8 hl) zo (by show _ = max _ (min _ z); (simp only; done)) zo | exact hN.far (k8 hl) zo (by assumption) (by show _ = max _ (min _ z); first | (simp only; done) | (simp only; omega) | omega))⟩⟩ [] (P := (kM z) ∧ (kM (max (ka1 (kB l n) (i * 2) 0) (min (ka1 (kB l n) ((i * 2) + 1) 0) z))) ∧ ((true) = true) ∧ (kJ (dI .i64 (kB l n))) ∧ (kG (kK l n)) ∧ (kM (kK l n : Int)) ∧ (((((i + 1) : Nat) : Int) : Int) = ((i : Int) + 1))) zk ⟨rfl, rfl, (by rfl), rfl, rfl, rfl, (by rfl)⟩ (show kK l n - (i + 1) < kK l n - i from zo)
   ·have hx11 : ((0 : Int) ≤ (bN (max (ka1 (kB l n) (i * 2) 0) (min (ka1 (kB l n) ((i * 2) + 1) 0) z)) z)) := fG
    have hx12 : ((0 : Int) ≤ (bN y z)) := fG
    refine kI (kT 5 [.call [] (qS (D.lit (.int .u64 (bN (max (ka1 (kB l n) (i * 2) 0) (min (ka1 (kB l n) ((i * 2) + 1) 0) z)) z)))) [] 0 [] none, .no, .no, .call [] (qS (D.lit (.int .u64 (bN y z)))) [] 0 [] none, .b false, .no]) ((_) ∧ (_) ∧ (¬ ((bN (max (ka1 (kB l n) (i * 2) 0) (min (ka1 (kB l n) ((i * 2) + 1) 0) z)) z) < (bN y z)))) [(1, iV z), (6, iV y), (7, bV true), (10, iV (max (ka1 (kB l n) (i * 2) 0) (min (ka1 (kB l n) ((i * 2) + 1) 0) z))), (12, sV .i64 (kB l n) (kK l n)), (13, uV (kK l n)), (14, uV i), (35, bV false)] [] 2 ⟨(sQ (max (ka1 (kB l n) (i * 2) 0) (min (ka1 (kB l n) ((i * 2) + 1) 0) z)) z zo zo), (sQ y z zo zo), zo⟩ ?_
    refine q8 ?_
    refine uJ [.w, .no] ((-9223372036854775808) ≤ ((i : Int) + 1) ∧ ((i : Int) + 1) ≤ 9223372036854775807) [(1, iV z), (6, iV y), (7, bV true), (12, sV .i64 (kB l n) (kK l n)), (13, uV (kK l n)), (14, iV (↑i + 1))] ⟨by omega, by omega⟩ ?_
    exact kX ⟨(((i + 1) : Nat), (y : Int), (true : Bool)), ⟨zo, (by first | exact hN.first (k8 hl) zo (by show _ = max _ (min _ z); first | (simp only; done) | (simp only; omega) | omega) | exact hN.near (k8 hl) zo (by show _ = max _ (min _ z); first | (simp only; done) | (simp only; omega) | omega) zo | exact hN.far (k8 hl) zo (by assumption) (by show _ = max _ (min _ z); (simp only; done)))⟩⟩ [] (P := (kM z) ∧ (kM y) ∧ ((true) = true) ∧ (kJ (dI .i64 (kB l n))) ∧ (kG (kK l n)) ∧ (kM (kK l n : Int)) ∧ (((((i + 1) : Nat) : Int) : Int) = ((i : Int) + 1))) zk ⟨rfl, rfl, (by rfl), rfl, rfl, rfl, (by rfl)⟩ (show kK l n - (i + 1) < kK l n - i from zo)
  ·subst hx5
   refine kI (kT 4 []) True [(1, iV z), (6, iV y), (7, bV false), (10, iV (max (ka1 (kB l n) (i * 2) 0) (min (ka1 (kB l n) ((i * 2) + 1) 0) z))), (12, sV .i64 (kB l n) (kK l n)), (13, uV (kK l n)), (14, uV i), (35, bV true)] [] 2 trivial ?_
   refine zt ?_
   refine uJ [.no, .no, .no] True [(1, iV z), (6, iV (max (ka1 (kB l n) (i * 2) 0) (min (ka1 (kB l n) ((i * 2) + 1) 0) z))), (7, bV true), (12, sV .i64 (kB l n) (kK l n)), (13, uV (kK l n)), (14, uV i)] trivial ?_
   refine uJ [.w, .no] ((-9223372036854775808) ≤ ((i : Int) + 1) ∧ ((i : Int) + 1) ≤ 9223372036854775807) [(1, iV z), (6, iV (max (ka1 (kB l n) (i * 2) 0) (min (ka1 (kB l n) ((i * 2) + 1) 0) z))), (7, bV true), (12, sV .i64 (kB l n) (kK l n)), (13, uV (kK l n)), (14, iV (↑i + 1))] ⟨by omega, by omega⟩ ?_
   exact kX ⟨(((i + 1) : Nat), ((max (ka1 (kB l n) (i * 2) 0) (min (ka1 (kB l n) ((i * 2) + 1) 0) z)) : Int), (true : Bool)), ⟨zo, (by first | exact hN.first (k8 hl) zo (by show _ = max _ (min _ z); (simp only; done)) | exact hN.near (k8 hl) zo (by show _ = max _ (min _ z); first | (simp only; done) | (simp only; omega) | omega) zo | exact hN.far (k8 hl) zo (by assumption) (by show _ = max _ (min _ z); first | (simp only; done) | (simp only; omega) | omega))⟩⟩ [] (P := (kM z) ∧ (kM (max (ka1 (kB l n) (i * 2) 0) (min (ka1 (kB l n) ((i * 2) + 1) 0) z))) ∧ ((true) = true) ∧ (kJ (dI .i64 (kB l n))) ∧ (kG (kK l n)) ∧ (kM (kK l n : Int)) ∧ (((((i + 1) : Nat) : Int) : Int) = ((i : Int) + 1))) zk ⟨rfl, rfl, (by rfl), rfl, rfl, rfl, (by rfl)⟩ (show kK l n - (i + 1) < kK l n - i from zo)
 ·refine kI [.b false] (¬ ((i : Int) < (kK l n : Int))) [(1, iV z), (6, iV y), (7, qS (D.lit (.bool (f)))), (12, sV .i64 (kB l n) (kK l n)), (13, uV (kK l n)), (14, uV i), (15, bV false)] [] 1 zo ?_
  refine AW.seq ?_
  refine zf ?_
  refine AW.exit ?_
  refine kI (kT 4 []) True [(4, iV y), (5, qS (D.lit (.bool (f))))] [] 1 trivial ?_
  obtain ⟨hz1, hz2⟩ := hN.fin (k8 hl) zo
  refine AW.ret ?_
  exact kC (.inr rfl) [] (P := (((uF z (kB l n)) : Int) = y) ∧ ((nrF z (kB l n)) = (f))) zk ⟨zo, hz2⟩
theorem nH (a b : List Int) (n m : Nat) (ha : ka0 a = n * 2) (hb : ka0 b = m * 2) (h3 : n ≤ 9223372036854775807) (h4 : m ≤ 9223372036854775807) : Fun 93 [.agg [.d (D.sl (dI .i64 a) n)], .agg [.d (D.sl (dI .i64 b) m)]] (kE []) 0 (qS (D.lit (.bool (w8 a b)))) (kE []) 0 := by
 refine Fun.mk (n := 31) Tryz.func93 rfl rfl (ka4 rfl) ?_
 intro cx hcx
 refine kI [.no, .no, .no] True [(2, rV 0 0), (3, rV 1 0)] [(0, some (56, .ds [dl a n])), (1, some (56, .ds [dl b m]))] 2 trivial ?_
 refine AW.seq ?_
 by_cases hx1 : (((n : Nat) : Int) ≠ ((m : Nat) : Int))
 ·refine kN (kT 6 [.b true]) (((n : Int) ≠ (m : Int))) [(2, rV 0 0), (3, rV 1 0), (12, bV true)] zo ?_
  refine zt ?_
  refine kI [.no] True [(4, bV false)] [] 2 trivial ?_
  refine AW.ret ?_
  exact kC (.inr rfl) [] (P := ((w8 a b) = false)) zk (by exact u3u ha hb zo)
 ·refine kN (kT 6 [.b false]) (¬ ((n : Int) ≠ (m : Int))) [(2, rV 0 0), (3, rV 1 0), (12, bV false)] zo ?_
  refine q8 ?_
  refine AW.seq ?_
  refine kN (kT 4 []) True [(2, rV 0 0), (3, rV 1 0), (15, uV n), (16, iV 0)] trivial ?_
  refine AW.block ?_
  refine kU 0 hcx (fun (x : {x : Nat // match x with | k => (k ≤ n) ∧ (∀ j, j < k → ka1 a (j * 2) 0 = ka1 b (j * 2) 0 ∧ ka1 a (j * 2 + 1) 0 = ka1 b (j * 2 + 1) 0)}) => match x with | ⟨k, _⟩ => (⟨[(2, rV 0 0), (3, rV 1 0), (15, uV n), (16, uV k)], [(0, some (56, .ds [dl a n])), (1, some (56, .ds [dl b m]))], 2⟩ : ES)) (fun x => match x with | ⟨k, _⟩ => n - k) ⟨(0 : Nat), ⟨zo, (fun j hj => absurd hj (kd1 j))⟩⟩ [] (P := (kG 0) ∧ (kG 0) ∧ (kM (n : Int)) ∧ (kM 0) ∧ (kJ [dl a n]) ∧ (kJ [dl b m])) zk ⟨rfl, rfl, rfl, rfl, rfl, rfl⟩ ?_
  rintro ⟨k, hinv0⟩
  obtain ⟨hk, hq⟩ : (k ≤ n) ∧ (∀ j, j < k → ka1 a (j * 2) 0 = ka1 b (j * 2) 0 ∧ ka1 a (j * 2 + 1) 0 = ka1 b (j * 2 + 1) 0) := hinv0
  refine qN (l := [(2, rV 0 0), (3, rV 1 0), (15, uV n), (16, uV k)]) (g := [(0, some (56, .ds [dl a n])), (1, some (56, .ds [dl b m]))]) (nx := 2) rfl rfl rfl ?_
  by_cases hx2 : (((k : Nat) : Int) < ((n : Nat) : Int))
  ·refine kI [.b true] (((k : Int) < (n : Int))) [(2, rV 0 0), (3, rV 1 0), (15, uV n), (16, uV k), (17, bV true)] [(0, some (56, .ds [dl a n])), (1, some (56, .ds [dl b m]))] 2 zo ?_
   refine AW.seq ?_
   refine yW ?_
   refine AW.seq ?_
   refine AW.block ?_
   refine kN [.no, .no] True [(2, rV 0 0), (3, rV 1 0), (5, uV k), (15, uV n), (16, uV k)] trivial ?_
   by_cases hx3 : (((ka1 a (k * 2) 0) = (ka1 b (k * 2) 0)) ∧ ((ka1 a ((k * 2) + 1) 0) = (ka1 b ((k * 2) + 1) 0)))
   ·refine kN [.no, .no, .no, .n k, .ds [iD (ka1 a (k * 2) 0), iD (ka1 a ((k * 2) + 1) 0)], .no, .no, .no, .n k, .ds [iD (ka1 b (k * 2) 0), iD (ka1 b ((k * 2) + 1) 0)], .b false] ((kM (k : Int)) ∧ (k < n) ∧ (ka5 2 (ka3 (k * 2) (dI .i64 a)) = [iD (ka1 a (k * 2) 0), iD (ka1 a ((k * 2) + 1) 0)]) ∧ (([iD (ka1 a (k * 2) 0), iD (ka1 a ((k * 2) + 1) 0)] : List D).length = 2) ∧ (kM (k : Int)) ∧ (k < m) ∧ (ka5 2 (ka3 (k * 2) (dI .i64 b)) = [iD (ka1 b (k * 2) 0), iD (ka1 b ((k * 2) + 1) 0)]) ∧ (([iD (ka1 b (k * 2) 0), iD (ka1 b ((k * 2) + 1) 0)] : List D).length = 2) ∧ ((((ka1 a (k * 2) 0) = (ka1 b (k * 2) 0)) ∧ ((ka1 a ((k * 2) + 1) 0) = (ka1 b ((k * 2) + 1) 0))))) [(2, rV 0 0), (3, rV 1 0), (15, uV n), (16, uV k), (29, bV false)] ⟨rfl, zo, (yN .i64 a (k * 2) 2 zo), rfl, rfl, zo, (yN .i64 b (k * 2) 2 zo), rfl, ⟨zo, zo⟩⟩ ?_
    refine q8 ?_
    refine uJ [.w, .no] ((-9223372036854775808) ≤ ((k : Int) + 1) ∧ ((k : Int) + 1) ≤ 9223372036854775807) [(2, rV 0 0), (3, rV 1 0), (15, uV n), (16, iV (↑k + 1))] ⟨by omega, by omega⟩ ?_
    exact kX ⟨((k + 1) : Nat), ⟨zo, (fun j hj => (Nat.lt_succ_iff_lt_or_eq.1 hj).elim (hq j) (fun e9 => by subst e9; omega))⟩⟩ [] (P := (kG 0) ∧ (kG 0) ∧ (kM (n : Int)) ∧ (((((k + 1) : Nat) : Int) : Int) = ((k : Int) + 1)) ∧ (kJ [dl a n]) ∧ (kJ [dl b m])) zk ⟨rfl, rfl, rfl, (by rfl), rfl, rfl⟩ (show n - (k + 1) < n - k from zo)
   ·refine kN [.no, .no, .no, .n k, .ds [iD (ka1 a (k * 2) 0), iD (ka1 a ((k * 2) + 1) 0)], .no, .no, .no, .n k, .ds [iD (ka1 b (k * 2) 0), iD (ka1 b ((k * 2) + 1) 0)], .b true] ((kM (k : Int)) ∧ (k < n) ∧ (ka5 2 (ka3 (k * 2) (dI .i64 a)) = [iD (ka1 a (k * 2) 0), iD (ka1 a ((k * 2) + 1) 0)]) ∧ (([iD (ka1 a (k * 2) 0), iD (ka1 a ((k * 2) + 1) 0)] : List D).length = 2) ∧ (kM (k : Int)) ∧ (k < m) ∧ (ka5 2 (ka3 (k * 2) (dI .i64 b)) = [iD (ka1 b (k * 2) 0), iD (ka1 b ((k * 2) + 1) 0)]) ∧ (([iD (ka1 b (k * 2) 0), iD (ka1 b ((k * 2) + 1) 0)] : List D).length = 2) ∧ (¬ (((ka1 a (k * 2) 0) = (ka1 b (k * 2) 0)) ∧ ((ka1 a ((k * 2) + 1) 0) = (ka1 b ((k * 2) + 1) 0))))) [(2, rV 0 0), (3, rV 1 0), (15, uV n), (16, uV k), (29, bV true)] ⟨rfl, zo, (yN .i64 a (k * 2) 2 zo), rfl, rfl, zo, (yN .i64 b (k * 2) 2 zo), rfl, zo⟩ ?_
    refine zt ?_
    refine kI [.no] True [(4, bV false)] [] 2 trivial ?_
    refine AW.ret ?_
    exact kC (.inr rfl) [] (P := ((w8 a b) = false)) zk (by exact u3t (k := k) zo)
  ·refine kI [.b false] (¬ ((k : Int) < (n : Int))) [(2, rV 0 0), (3, rV 1 0), (15, uV n), (16, uV k), (17, bV false)] [(0, some (56, .ds [dl a n])), (1, some (56, .ds [dl b m]))] 2 zo ?_
   refine AW.seq ?_
   refine zf ?_
   refine AW.exit ?_
   refine kI [.no] True [(4, bV true)] [] 2 trivial ?_
   refine AW.ret ?_
   exact kC (.inr rfl) [] (P := ((w8 a b) = true)) zk (by exact u3s ha hb zo (fun j hj => hq j zo))
end Go.Proofs.YtcfmjpnffembpaaGreat
