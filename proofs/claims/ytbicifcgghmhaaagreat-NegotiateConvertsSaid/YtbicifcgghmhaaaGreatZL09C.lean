/- Sets of integers: C. No statement is proved here. -/
import Derived.Test.YtbicifcgghmhaaaGreatZL09B
namespace Go.Proofs.YtbicifcgghmhaaaGreat
open Go.ChangeShapes Go.WideShapes Go.ChangeAt Go.RowKit
open Bool renaming eq_false_or_eq_true → kb3
open List renaming drop → ka3, drop_drop → kc8, drop_zero → kd2, getD → ka1, length → ka0, length_append → ka6, length_cons → ka9, length_drop → kb2, length_map → kc3, length_nil → kb0, length_replicate → kb4, length_reverse → kc1, length_set → kb8, length_take → kb1, take → ka5
open Nat renaming le_of_ble_eq_true → ka4, mul_one → kc7
set_option linter.unusedVariables false
set_option linter.unusedSimpArgs false
set_option maxHeartbeats 4000000
set_option maxRecDepth 100000
theorem vX {p : Prop} (h : p := by first | omega | assumption | simp) : p := h
theorem cM {p : Prop} (h : p := by first | rfl | omega | assumption | (simp; done) | (simp; omega)) : p := h
theorem bX {p : Prop} (h : p := by first | (rw [kc8]; exact yG _ _ _ (by first | omega | (simp only [uU, qV, ka6, ka9, kb0, kb1, kb2, kb4, kb8, kc3, kc1, kc7] <;> omega) | rfl)) | (rw [kc8, Nat.add_comm]; exact yG _ _ _ (by first | omega | (simp only [uU, qV, ka6, ka9, kb0, kb1, kb2, kb4, kb8, kc3, kc1, kc7] <;> omega) | rfl))) : p := h
theorem eJ {p : Prop} (h : p := by first | omega | (simp only [uU, qV, ka6, ka9, kb0, kb1, kb2, kb4, kb8, kc3, kc1, kc7] <;> omega) | rfl) : p := h
theorem rP {p : Prop} (h : p := by simp only [dF, aK, Nat.zero_mul, Nat.one_mul, kd2]) : p := h
theorem rQ {p : Prop} (h : p := by first | assumption | (simp only [uU, ka6, ka9, kb0] <;> omega)) : p := h
theorem eI {p : Prop} (h : p := by first | omega | (show _ < _; simp; omega)) : p := h
theorem k0a {p : Prop} (h : p := by rw [kd2, List.take_of_length_le (by first | omega | (simp only [uU, qV, ka6, ka9, kb0, kb1, kb2, kb4, kb8, kc3, kc1, kc7] <;> omega))]) : p := h
theorem rO {p : Prop} (h : p := by first | omega | rfl | assumption | (simp; done) | (simp; omega)) : p := h
abbrev u6e (i : Nat) (a : List Int) (n : Nat) (j : Nat) (b : List Int) (m : Nat) : BC := .ds [iD (max (ka1 (ka3 (i * 2) (kB a n)) 0 0) (ka1 (ka3 (j * 2) (kB b m)) 0 0)), iD (min (ka1 (ka3 (i * 2) (kB a n)) 1 0) (ka1 (ka3 (j * 2) (kB b m)) 1 0))]
theorem gJ (a b : List Int) (n m : Nat) (ha : ka0 a = n * 2) (hb : ka0 b = m * 2) (h3 : n ≤ 9223372036854775807) (h4 : m ≤ 9223372036854775807) : Fun 162 [.agg [.d (D.sl (dI .i64 a) n)], .agg [.d (D.sl (dI .i64 b) m)]] (kF []) 0 (.e (.agg [.d (D.sl (dI .i64 (uN (kB a n) (kB b m))) (qT (kB a n) (kB b m)))])) (kF []) 0 := by
 refine Fun.mk (n := 69) Tryz.func162 rfl rfl (ka4 rfl) ?_
 intro cx hcx
 refine kI [.no, .no, .no] True [(2, rV 0 0), (3, rV 1 0), (4, rV 2 0)] [(0, some (60, .ds [dl a n])), (1, some (60, .ds [dl b m])), (2, some (60, .ds [qQ]))] 3 trivial ?_
 refine kS [.no] True [(2, rV 0 0), (3, rV 1 0), (4, rV 2 0), (5, nV)] trivial ?_
 have hx1 : ((ka0 (kB a n)) = ((qA a n) * 2)) := qC (zo)
 have hx2 : (((qA a n) ≤ 64) ∧ ((qA a n) ≤ n)) := lU
 have hx3 : ((ka0 (kB b m)) = ((qA b m) * 2)) := qC (zo)
 have hx4 : (((qA b m) ≤ 64) ∧ ((qA b m) ≤ m)) := lU
 refine kI [.no, .call [] (sV .i64 (kB a n) (qA a n)) [] 0 [] none, .no, .call [] (sV .i64 (kB b m) (qA b m)) [] 0 [] none, .no, .no] ((_) ∧ (_)) [(4, rV 2 0), (5, nV), (6, sV .i64 (kB a n) (qA a n)), (7, sV .i64 (kB b m) (qA b m))] [(2, some (60, .ds [qQ]))] 3 ⟨(gH a n zo zo), (gH b m zo zo)⟩ ?_
 refine AW.seq ?_
 refine AW.block ?_
 refine AW.adoptS 5 2 95 rfl ?_
 refine qF 0 hcx (fun (x : {x : Nat × Nat × Nat × List Int // match x with | (i, j, k, o) => (i ≤ qA a n ∧ j ≤ qA b m ∧ k ≤ 64) ∧ (IX (kB a n) (kB b m) i j k o) ∧ (ka0 o = k * 2)}) => match x with | ⟨(i, j, k, o), _⟩ => (⟨[(4, rV 2 0), (5, oV 4 0 k 2), (6, sV .i64 (ka3 (i * 2) (kB a n)) ((qA a n) - i)), (7, sV .i64 (ka3 (j * 2) (kB b m)) ((qA b m) - j))], [(2, some (60, .ds [qQ])), (4, some (95, .ds (dI .i64 o)))], 5⟩ : ES)) (fun x => match x with | ⟨(i, j, k, o), _⟩ => (qA a n - i) + (qA b m - j)) ⟨((0 : Nat), (0 : Nat), (0 : Nat), (([] : List Int) : List Int)), ⟨vX, (IX.zero _ _), rfl⟩⟩ [(4, 3)] (P := (kH 0) ∧ (kH 0) ∧ (kH 0) ∧ (((dI .i64 (ka3 0 (kB a n))) : List D) = (dI .i64 (kB a n))) ∧ ((((qA a n) - 0) : Nat) = (qA a n)) ∧ (((dI .i64 (ka3 0 (kB b m))) : List D) = (dI .i64 (kB b m))) ∧ ((((qA b m) - 0) : Nat) = (qA b m)) ∧ (kM [qQ]) ∧ (((dI .i64 ([] : List Int)) : List D) = ([] : List D))) zk ⟨rfl, rfl, rfl, (by first | rfl | with_reducible assumption | exact dp1 (qC ha) | exact dp1 (qC hb)), cM, (by first | rfl | with_reducible assumption | exact dp1 (qC ha) | exact dp1 (qC hb)), cM, rfl, (by first | rfl | with_reducible assumption | exact dp1 (qC ha) | exact dp1 (qC hb))⟩ ?_
 rintro ⟨⟨i, j, k, o⟩, hinv0⟩
 obtain ⟨hi, hX, ho⟩ : (i ≤ qA a n ∧ j ≤ qA b m ∧ k ≤ 64) ∧ (IX (kB a n) (kB b m) i j k o) ∧ (ka0 o = k * 2) := hinv0
 refine uG (l := [(4, rV 2 0), (5, oV 4 0 k 2), (6, sV .i64 (ka3 (i * 2) (kB a n)) ((qA a n) - i)), (7, sV .i64 (ka3 (j * 2) (kB b m)) ((qA b m) - j))]) (g := [(2, some (60, .ds [qQ])), (4, some (95, .ds (dI .i64 o)))]) (nx := 5) rfl rfl rfl ?_
 refine AW.seq ?_
 by_cases hx5 : ((0 : Int) < ((((qA a n) - i) : Nat) : Int))
 ·by_cases hx6 : ((0 : Int) < ((((qA b m) - j) : Nat) : Int))
  ·by_cases hx7 : (((k : Nat) : Int) < 64)
   ·refine kI [.no, .no, .b true, .no, .no, .no, .b true, .no, .no, .no, .no, .b true, .no] ((((0 : Int) < ((((qA a n) - i) : Nat) : Int))) ∧ (((0 : Int) < ((((qA b m) - j) : Nat) : Int))) ∧ (((k : Int) < 64))) [(4, rV 2 0), (5, oV 4 0 k 2), (6, sV .i64 (ka3 (i * 2) (kB a n)) ((qA a n) - i)), (7, sV .i64 (ka3 (j * 2) (kB b m)) ((qA b m) - j)), (25, bV true)] [(2, some (60, .ds [qQ])), (4, some (95, .ds (dI .i64 o)))] 5 ⟨zo, zo, zo⟩ ?_
    refine vO ?_
    refine AW.block ?_
    have hx8 : ka1 (ka3 (i * 2) (kB a n)) 0 0 = ka1 (kB a n) (i * 2) 0 := eB
    have hx9 : ka1 (ka3 (i * 2) (kB a n)) 1 0 = ka1 (kB a n) (i * 2 + 1) 0 := eB
    have hx10 : ka1 (ka3 (j * 2) (kB b m)) 0 0 = ka1 (kB b m) (j * 2) 0 := eB
    have hx11 : ka1 (ka3 (j * 2) (kB b m)) 1 0 = ka1 (kB b m) (j * 2 + 1) 0 := eB
    refine kI [.no, .n 0, .no, .d (D.lit (.int .i64 (ka1 (ka3 (i * 2) (kB a n)) 0 0))), .no, .n 0, .no, .d (D.lit (.int .i64 (ka1 (ka3 (j * 2) (kB b m)) 0 0))), .no, .no, .n 0, .no, .d (D.lit (.int .i64 (ka1 (ka3 (i * 2) (kB a n)) 1 0))), .no, .n 0, .no, .d (D.lit (.int .i64 (ka1 (ka3 (j * 2) (kB b m)) 1 0))), .no, .no, .no, .no] ((kP 0) ∧ ((0 : Nat) < ((qA a n) - i)) ∧ ((ka3 0 (ka3 0 (dI .i64 (ka3 (i * 2) (kB a n)))))[0]? = some (D.lit (.int .i64 (ka1 (ka3 (i * 2) (kB a n)) 0 0)))) ∧ (kP 0) ∧ ((0 : Nat) < ((qA b m) - j)) ∧ ((ka3 0 (ka3 0 (dI .i64 (ka3 (j * 2) (kB b m)))))[0]? = some (D.lit (.int .i64 (ka1 (ka3 (j * 2) (kB b m)) 0 0)))) ∧ (kP 0) ∧ ((0 : Nat) < ((qA a n) - i)) ∧ ((ka3 1 (ka3 0 (dI .i64 (ka3 (i * 2) (kB a n)))))[0]? = some (D.lit (.int .i64 (ka1 (ka3 (i * 2) (kB a n)) 1 0)))) ∧ (kP 0) ∧ ((0 : Nat) < ((qA b m) - j)) ∧ ((ka3 1 (ka3 0 (dI .i64 (ka3 (j * 2) (kB b m)))))[0]? = some (D.lit (.int .i64 (ka1 (ka3 (j * 2) (kB b m)) 1 0))))) [(4, rV 2 0), (5, oV 4 0 k 2), (6, sV .i64 (ka3 (i * 2) (kB a n)) ((qA a n) - i)), (7, sV .i64 (ka3 (j * 2) (kB b m)) ((qA b m) - j)), (8, rV 5 0)] [(2, some (60, .ds [qQ])), (4, some (95, .ds (dI .i64 o))), (5, some (95, (u6e i a n j b m)))] 6 ⟨rfl, zo, bX, rfl, zo, bX, rfl, zo, bX, rfl, zo, bX⟩ ?_
    refine AW.seq ?_
    by_cases hx12 : ((max (ka1 (ka3 (i * 2) (kB a n)) 0 0) (ka1 (ka3 (j * 2) (kB b m)) 0 0)) ≤ (min (ka1 (ka3 (i * 2) (kB a n)) 1 0) (ka1 (ka3 (j * 2) (kB b m)) 1 0)))
    ·refine kS (qN 4 [.b true]) (((max (ka1 (ka3 (i * 2) (kB a n)) 0 0) (ka1 (ka3 (j * 2) (kB b m)) 0 0)) ≤ (min (ka1 (ka3 (i * 2) (kB a n)) 1 0) (ka1 (ka3 (j * 2) (kB b m)) 1 0)))) [(4, rV 2 0), (5, oV 4 0 k 2), (6, sV .i64 (ka3 (i * 2) (kB a n)) ((qA a n) - i)), (7, sV .i64 (ka3 (j * 2) (kB b m)) ((qA b m) - j)), (8, rV 5 0), (49, bV true)] zo ?_
     refine zt ?_
     refine aB [.no, .no, .no, .ap none (k + 1) (dI .i64 (o ++ ([(max (ka1 (ka3 (i * 2) (kB a n)) 0 0) (ka1 (ka3 (j * 2) (kB b m)) 0 0)), (min (ka1 (ka3 (i * 2) (kB a n)) 1 0) (ka1 (ka3 (j * 2) (kB b m)) 1 0))] : List Int))), .no] (([iD (max (ka1 (ka3 (i * 2) (kB a n)) 0 0) (ka1 (ka3 (j * 2) (kB b m)) 0 0)), iD (min (ka1 (ka3 (i * 2) (kB a n)) 1 0) (ka1 (ka3 (j * 2) (kB b m)) 1 0))].length = 1 * 2) ∧ (((dI .i64 o) : List D).length = k * 2) ∧ ((k + 1) * 16 ≤ 140737488355328) ∧ (k + 1 = (k + 1)) ∧ (((dI .i64 o) : List D) ++ [iD (max (ka1 (ka3 (i * 2) (kB a n)) 0 0) (ka1 (ka3 (j * 2) (kB b m)) 0 0)), iD (min (ka1 (ka3 (i * 2) (kB a n)) 1 0) (ka1 (ka3 (j * 2) (kB b m)) 1 0))] = (dI .i64 (o ++ ([(max (ka1 (ka3 (i * 2) (kB a n)) 0 0) (ka1 (ka3 (j * 2) (kB b m)) 0 0)), (min (ka1 (ka3 (i * 2) (kB a n)) 1 0) (ka1 (ka3 (j * 2) (kB b m)) 1 0))] : List Int))))) [(4, rV 2 0), (5, oV 7 0 (k + 1) 2), (6, sV .i64 (ka3 (i * 2) (kB a n)) ((qA a n) - i)), (7, sV .i64 (ka3 (j * 2) (kB b m)) ((qA b m) - j))] [(2, some (60, .ds [qQ])), (7, some (95, .ds (dI .i64 (o ++ ([(max (ka1 (ka3 (i * 2) (kB a n)) 0 0) (ka1 (ka3 (j * 2) (kB b m)) 0 0)), (min (ka1 (ka3 (i * 2) (kB a n)) 1 0) (ka1 (ka3 (j * 2) (kB b m)) 1 0))] : List Int)))))] 8 ⟨eJ, eJ, zo, zo, (y4 .i64 o ([(max (ka1 (ka3 (i * 2) (kB a n)) 0 0) (ka1 (ka3 (j * 2) (kB b m)) 0 0)), (min (ka1 (ka3 (i * 2) (kB a n)) 1 0) (ka1 (ka3 (j * 2) (kB b m)) 1 0))] : List Int))⟩ ?_
     by_cases hx13 : ((ka1 (ka3 (i * 2) (kB a n)) 1 0) < (ka1 (ka3 (j * 2) (kB b m)) 1 0))
     ·refine kS [.no, .n 0, .no, .d (D.lit (.int .i64 (ka1 (ka3 (i * 2) (kB a n)) 1 0))), .no, .n 0, .no, .d (D.lit (.int .i64 (ka1 (ka3 (j * 2) (kB b m)) 1 0))), .b true] ((kP 0) ∧ ((0 : Nat) < ((qA a n) - i)) ∧ ((ka3 1 (ka3 0 (dI .i64 (ka3 (i * 2) (kB a n)))))[0]? = some (D.lit (.int .i64 (ka1 (ka3 (i * 2) (kB a n)) 1 0)))) ∧ (kP 0) ∧ ((0 : Nat) < ((qA b m) - j)) ∧ ((ka3 1 (ka3 0 (dI .i64 (ka3 (j * 2) (kB b m)))))[0]? = some (D.lit (.int .i64 (ka1 (ka3 (j * 2) (kB b m)) 1 0)))) ∧ (((ka1 (ka3 (i * 2) (kB a n)) 1 0) < (ka1 (ka3 (j * 2) (kB b m)) 1 0)))) [(4, rV 2 0), (5, oV 7 0 (k + 1) 2), (6, sV .i64 (ka3 (i * 2) (kB a n)) ((qA a n) - i)), (7, sV .i64 (ka3 (j * 2) (kB b m)) ((qA b m) - j)), (62, bV true)] ⟨rfl, zo, bX, rfl, zo, bX, zo⟩ ?_
      refine zt ?_
      refine yK [.no, .sls 1 ((qA a n) - i) (((qA a n) - i) - 1) (dI .i64 (ka5 ((((qA a n) - i) - 1) * 2) (ka3 2 (ka3 (i * 2) (kB a n))))), .no] ((kP 1) ∧ (((qA a n) - i) = ((qA a n) - i)) ∧ ((1 : Nat) ≤ ((qA a n) - i)) ∧ (((qA a n) - i) ≤ ((qA a n) - i)) ∧ (((qA a n) - i) - 1 = (((qA a n) - i) - 1)) ∧ (ka5 ((((qA a n) - i) - 1) * 2) (ka3 (1 * 2) (dI .i64 (ka3 (i * 2) (kB a n)))) = (dI .i64 (ka5 ((((qA a n) - i) - 1) * 2) (ka3 2 (ka3 (i * 2) (kB a n))))))) [(4, rV 2 0), (5, oV 7 0 (k + 1) 2), (6, sV .i64 (ka5 ((((qA a n) - i) - 1) * 2) (ka3 2 (ka3 (i * 2) (kB a n)))) (((qA a n) - i) - 1)), (7, sV .i64 (ka3 (j * 2) (kB b m)) ((qA b m) - j))] ⟨rfl, rfl, zo, zo, zo, rP⟩ ?_
      exact Rd.of ⟨(((i + 1) : Nat), (j : Nat), ((k + 1) : Nat), ((o ++ ([(max (ka1 (ka3 (i * 2) (kB a n)) 0 0) (ka1 (ka3 (j * 2) (kB b m)) 0 0)), (min (ka1 (ka3 (i * 2) (kB a n)) 1 0) (ka1 (ka3 (j * 2) (kB b m)) 1 0))] : List Int)) : List Int)), ⟨vX, (by first | exact hX.ly (qC ha) (qC hb) (uQ ha) (uQ hb) zo zo zo zo zo zo | exact hX.ln (qC ha) (qC hb) (uQ ha) (uQ hb) zo zo zo zo | exact hX.ry (qC ha) (qC hb) (uQ ha) (uQ hb) zo zo zo zo zo zo | exact hX.rn (qC ha) (qC hb) (uQ ha) (uQ hb) zo zo zo zo), rQ⟩⟩ [(4, 7)] (P := (kH 0) ∧ (kH 0) ∧ (kH (k + 1)) ∧ (((dI .i64 (ka3 ((i + 1) * 2) (kB a n))) : List D) = (dI .i64 (ka5 ((((qA a n) - i) - 1) * 2) (ka3 2 (ka3 (i * 2) (kB a n)))))) ∧ ((((qA a n) - (i + 1)) : Nat) = (((qA a n) - i) - 1)) ∧ (kM (dI .i64 (ka3 (j * 2) (kB b m)))) ∧ (kH ((qA b m) - j)) ∧ (kM [qQ]) ∧ (kM (dI .i64 (o ++ ([(max (ka1 (ka3 (i * 2) (kB a n)) 0 0) (ka1 (ka3 (j * 2) (kB b m)) 0 0)), (min (ka1 (ka3 (i * 2) (kB a n)) 1 0) (ka1 (ka3 (j * 2) (kB b m)) 1 0))] : List Int))))) zk ⟨rfl, rfl, rfl, (by first | rfl | with_reducible assumption | exact dp1 (qC ha) | exact dp1 (qC hb)), cM, rfl, rfl, rfl, rfl⟩ (show (qA a n - (i + 1)) + (qA b m - j) < (qA a n - i) + (qA b m - j) from eI)
     ·refine kS [.no, .n 0, .no, .d (D.lit (.int .i64 (ka1 (ka3 (i * 2) (kB a n)) 1 0))), .no, .n 0, .no, .d (D.lit (.int .i64 (ka1 (ka3 (j * 2) (kB b m)) 1 0))), .b false] ((kP 0) ∧ ((0 : Nat) < ((qA a n) - i)) ∧ ((ka3 1 (ka3 0 (dI .i64 (ka3 (i * 2) (kB a n)))))[0]? = some (D.lit (.int .i64 (ka1 (ka3 (i * 2) (kB a n)) 1 0)))) ∧ (kP 0) ∧ ((0 : Nat) < ((qA b m) - j)) ∧ ((ka3 1 (ka3 0 (dI .i64 (ka3 (j * 2) (kB b m)))))[0]? = some (D.lit (.int .i64 (ka1 (ka3 (j * 2) (kB b m)) 1 0)))) ∧ (¬ ((ka1 (ka3 (i * 2) (kB a n)) 1 0) < (ka1 (ka3 (j * 2) (kB b m)) 1 0)))) [(4, rV 2 0), (5, oV 7 0 (k + 1) 2), (6, sV .i64 (ka3 (i * 2) (kB a n)) ((qA a n) - i)), (7, sV .i64 (ka3 (j * 2) (kB b m)) ((qA b m) - j)), (62, bV false)] ⟨rfl, zo, bX, rfl, zo, bX, zo⟩ ?_
      refine zf ?_
      refine yK [.no, .sls 1 ((qA b m) - j) (((qA b m) - j) - 1) (dI .i64 (ka5 ((((qA b m) - j) - 1) * 2) (ka3 2 (ka3 (j * 2) (kB b m))))), .no] ((kP 1) ∧ (((qA b m) - j) = ((qA b m) - j)) ∧ ((1 : Nat) ≤ ((qA b m) - j)) ∧ (((qA b m) - j) ≤ ((qA b m) - j)) ∧ (((qA b m) - j) - 1 = (((qA b m) - j) - 1)) ∧ (ka5 ((((qA b m) - j) - 1) * 2) (ka3 (1 * 2) (dI .i64 (ka3 (j * 2) (kB b m)))) = (dI .i64 (ka5 ((((qA b m) - j) - 1) * 2) (ka3 2 (ka3 (j * 2) (kB b m))))))) [(4, rV 2 0), (5, oV 7 0 (k + 1) 2), (6, sV .i64 (ka3 (i * 2) (kB a n)) ((qA a n) - i)), (7, sV .i64 (ka5 ((((qA b m) - j) - 1) * 2) (ka3 2 (ka3 (j * 2) (kB b m)))) (((qA b m) - j) - 1))] ⟨rfl, rfl, zo, zo, zo, rP⟩ ?_
      exact Rd.of ⟨((i : Nat), ((j + 1) : Nat), ((k + 1) : Nat), ((o ++ ([(max (ka1 (ka3 (i * 2) (kB a n)) 0 0) (ka1 (ka3 (j * 2) (kB b m)) 0 0)), (min (ka1 (ka3 (i * 2) (kB a n)) 1 0) (ka1 (ka3 (j * 2) (kB b m)) 1 0))] : List Int)) : List Int)), ⟨vX, (by first | exact hX.ly (qC ha) (qC hb) (uQ ha) (uQ hb) zo zo zo zo zo zo | exact hX.ln (qC ha) (qC hb) (uQ ha) (uQ hb) zo zo zo zo | exact hX.ry (qC ha) (qC hb) (uQ ha) (uQ hb) zo zo zo zo zo zo | exact hX.rn (qC ha) (qC hb) (uQ ha) (uQ hb) zo zo zo zo), rQ⟩⟩ [(4, 7)] (P := (kH 0) ∧ (kH 0) ∧ (kH (k + 1)) ∧ (kM (dI .i64 (ka3 (i * 2) (kB a n)))) ∧ (kH ((qA a n) - i)) ∧ (((dI .i64 (ka3 ((j + 1) * 2) (kB b m))) : List D) = (dI .i64 (ka5 ((((qA b m) - j) - 1) * 2) (ka3 2 (ka3 (j * 2) (kB b m)))))) ∧ ((((qA b m) - (j + 1)) : Nat) = (((qA b m) - j) - 1)) ∧ (kM [qQ]) ∧ (kM (dI .i64 (o ++ ([(max (ka1 (ka3 (i * 2) (kB a n)) 0 0) (ka1 (ka3 (j * 2) (kB b m)) 0 0)), (min (ka1 (ka3 (i * 2) (kB a n)) 1 0) (ka1 (ka3 (j * 2) (kB b m)) 1 0))] : List Int))))) zk ⟨rfl, rfl, rfl, rfl, rfl, (by first | rfl | with_reducible assumption | exact dp1 (qC ha) | exact dp1 (qC hb)), cM, rfl, rfl⟩ (show (qA a n - i) + (qA b m - (j + 1)) < (qA a n - i) + (qA b m - j) from eI)
    ·refine kS (qN 4 [.b false]) (¬ ((max (ka1 (ka3 (i * 2) (kB a n)) 0 0) (ka1 (ka3 (j * 2) (kB b m)) 0 0)) ≤ (min (ka1 (ka3 (i * 2) (kB a n)) 1 0) (ka1 (ka3 (j * 2) (kB b m)) 1 0)))) [(4, rV 2 0), (5, oV 4 0 k 2), (6, sV .i64 (ka3 (i * 2) (kB a n)) ((qA a n) - i)), (7, sV .i64 (ka3 (j * 2) (kB b m)) ((qA b m) - j)), (8, rV 5 0), (49, bV false)] zo ?_
     refine u9 ?_
     by_cases hx14 : ((ka1 (ka3 (i * 2) (kB a n)) 1 0) < (ka1 (ka3 (j * 2) (kB b m)) 1 0))
     ·refine kI [.no, .n 0, .no, .d (D.lit (.int .i64 (ka1 (ka3 (i * 2) (kB a n)) 1 0))), .no, .n 0, .no, .d (D.lit (.int .i64 (ka1 (ka3 (j * 2) (kB b m)) 1 0))), .b true] ((kP 0) ∧ ((0 : Nat) < ((qA a n) - i)) ∧ ((ka3 1 (ka3 0 (dI .i64 (ka3 (i * 2) (kB a n)))))[0]? = some (D.lit (.int .i64 (ka1 (ka3 (i * 2) (kB a n)) 1 0)))) ∧ (kP 0) ∧ ((0 : Nat) < ((qA b m) - j)) ∧ ((ka3 1 (ka3 0 (dI .i64 (ka3 (j * 2) (kB b m)))))[0]? = some (D.lit (.int .i64 (ka1 (ka3 (j * 2) (kB b m)) 1 0)))) ∧ (((ka1 (ka3 (i * 2) (kB a n)) 1 0) < (ka1 (ka3 (j * 2) (kB b m)) 1 0)))) [(4, rV 2 0), (5, oV 4 0 k 2), (6, sV .i64 (ka3 (i * 2) (kB a n)) ((qA a n) - i)), (7, sV .i64 (ka3 (j * 2) (kB b m)) ((qA b m) - j)), (62, bV true)] [(2, some (60, .ds [qQ])), (4, some (95, .ds (dI .i64 o)))] 6 ⟨rfl, zo, bX, rfl, zo, bX, zo⟩ ?_
      refine zt ?_
      refine yK [.no, .sls 1 ((qA a n) - i) (((qA a n) - i) - 1) (dI .i64 (ka5 ((((qA a n) - i) - 1) * 2) (ka3 2 (ka3 (i * 2) (kB a n))))), .no] ((kP 1) ∧ (((qA a n) - i) = ((qA a n) - i)) ∧ ((1 : Nat) ≤ ((qA a n) - i)) ∧ (((qA a n) - i) ≤ ((qA a n) - i)) ∧ (((qA a n) - i) - 1 = (((qA a n) - i) - 1)) ∧ (ka5 ((((qA a n) - i) - 1) * 2) (ka3 (1 * 2) (dI .i64 (ka3 (i * 2) (kB a n)))) = (dI .i64 (ka5 ((((qA a n) - i) - 1) * 2) (ka3 2 (ka3 (i * 2) (kB a n))))))) [(4, rV 2 0), (5, oV 4 0 k 2), (6, sV .i64 (ka5 ((((qA a n) - i) - 1) * 2) (ka3 2 (ka3 (i * 2) (kB a n)))) (((qA a n) - i) - 1)), (7, sV .i64 (ka3 (j * 2) (kB b m)) ((qA b m) - j))] ⟨rfl, rfl, zo, zo, zo, rP⟩ ?_
      exact Rd.of ⟨(((i + 1) : Nat), (j : Nat), (k : Nat), (o : List Int)), ⟨vX, (by first | exact hX.ly (qC ha) (qC hb) (uQ ha) (uQ hb) zo zo zo zo zo zo | exact hX.ln (qC ha) (qC hb) (uQ ha) (uQ hb) zo zo zo zo | exact hX.ry (qC ha) (qC hb) (uQ ha) (uQ hb) zo zo zo zo zo zo | exact hX.rn (qC ha) (qC hb) (uQ ha) (uQ hb) zo zo zo zo), rQ⟩⟩ [] (P := (kH 0) ∧ (kH 0) ∧ (kH k) ∧ (((dI .i64 (ka3 ((i + 1) * 2) (kB a n))) : List D) = (dI .i64 (ka5 ((((qA a n) - i) - 1) * 2) (ka3 2 (ka3 (i * 2) (kB a n)))))) ∧ ((((qA a n) - (i + 1)) : Nat) = (((qA a n) - i) - 1)) ∧ (kM (dI .i64 (ka3 (j * 2) (kB b m)))) ∧ (kH ((qA b m) - j)) ∧ (kM [qQ]) ∧ (kM (dI .i64 o))) zk ⟨rfl, rfl, rfl, (by first | rfl | with_reducible assumption | exact dp1 (qC ha) | exact dp1 (qC hb)), cM, rfl, rfl, rfl, rfl⟩ (show (qA a n - (i + 1)) + (qA b m - j) < (qA a n - i) + (qA b m - j) from eI)
     ·refine kI [.no, .n 0, .no, .d (D.lit (.int .i64 (ka1 (ka3 (i * 2) (kB a n)) 1 0))), .no, .n 0, .no, .d (D.lit (.int .i64 (ka1 (ka3 (j * 2) (kB b m)) 1 0))), .b false] ((kP 0) ∧ ((0 : Nat) < ((qA a n) - i)) ∧ ((ka3 1 (ka3 0 (dI .i64 (ka3 (i * 2) (kB a n)))))[0]? = some (D.lit (.int .i64 (ka1 (ka3 (i * 2) (kB a n)) 1 0)))) ∧ (kP 0) ∧ ((0 : Nat) < ((qA b m) - j)) ∧ ((ka3 1 (ka3 0 (dI .i64 (ka3 (j * 2) (kB b m)))))[0]? = some (D.lit (.int .i64 (ka1 (ka3 (j * 2) (kB b m)) 1 0)))) ∧ (¬ ((ka1 (ka3 (i * 2) (kB a n)) 1 0) < (ka1 (ka3 (j * 2) (kB b m)) 1 0)))) [(4, rV 2 0), (5, oV 4 0 k 2), (6, sV .i64 (ka3 (i * 2) (kB a n)) ((qA a n) - i)), (7, sV .i64 (ka3 (j * 2) (kB b m)) ((qA b m) - j)), (62, bV false)] [(2, some (60, .ds [qQ])), (4, some (95, .ds (dI .i64 o)))] 6 ⟨rfl, zo, bX, rfl, zo, bX, zo⟩ ?_
      refine zf ?_
      refine yK [.no, .sls 1 ((qA b m) - j) (((qA b m) - j) - 1) (dI .i64 (ka5 ((((qA b m) - j) - 1) * 2) (ka3 2 (ka3 (j * 2) (kB b m))))), .no] ((kP 1) ∧ (((qA b m) - j) = ((qA b m) - j)) ∧ ((1 : Nat) ≤ ((qA b m) - j)) ∧ (((qA b m) - j) ≤ ((qA b m) - j)) ∧ (((qA b m) - j) - 1 = (((qA b m) - j) - 1)) ∧ (ka5 ((((qA b m) - j) - 1) * 2) (ka3 (1 * 2) (dI .i64 (ka3 (j * 2) (kB b m)))) = (dI .i64 (ka5 ((((qA b m) - j) - 1) * 2) (ka3 2 (ka3 (j * 2) (kB b m))))))) [(4, rV 2 0), (5, oV 4 0 k 2), (6, sV .i64 (ka3 (i * 2) (kB a n)) ((qA a n) - i)), (7, sV .i64 (ka5 ((((qA b m) - j) - 1) * 2) (ka3 2 (ka3 (j * 2) (kB b m)))) (((qA b m) - j) - 1))] ⟨rfl, rfl, zo, zo, zo, rP⟩ ?_
      exact Rd.of ⟨((i : Nat), ((j + 1) : Nat), (k : Nat), (o : List Int)), ⟨vX, (by first | exact hX.ly (qC ha) (qC hb) (uQ ha) (uQ hb) zo zo zo zo zo zo | exact hX.ln (qC ha) (qC hb) (uQ ha) (uQ hb) zo zo zo zo | exact hX.ry (qC ha) (qC hb) (uQ ha) (uQ hb) zo zo zo zo zo zo | exact hX.rn (qC ha) (qC hb) (uQ ha) (uQ hb) zo zo zo zo), rQ⟩⟩ [] (P := (kH 0) ∧ (kH 0) ∧ (kH k) ∧ (kM (dI .i64 (ka3 (i * 2) (kB a n)))) ∧ (kH ((qA a n) - i)) ∧ (((dI .i64 (ka3 ((j + 1) * 2) (kB b m))) : List D) = (dI .i64 (ka5 ((((qA b m) - j) - 1) * 2) (ka3 2 (ka3 (j * 2) (kB b m)))))) ∧ ((((qA b m) - (j + 1)) : Nat) = (((qA b m) - j) - 1)) ∧ (kM [qQ]) ∧ (kM (dI .i64 o))) zk ⟨rfl, rfl, rfl, rfl, rfl, (by first | rfl | with_reducible assumption | exact dp1 (qC ha) | exact dp1 (qC hb)), cM, rfl, rfl⟩ (show (qA a n - i) + (qA b m - (j + 1)) < (qA a n - i) + (qA b m - j) from eI)
   ·refine kI [.no, .no, .b true, .no, .no, .no, .b true, .no, .no, .no, .no, .b false, .no] ((((0 : Int) < ((((qA a n) - i) : Nat) : Int))) ∧ (((0 : Int) < ((((qA b m) - j) : Nat) : Int))) ∧ (¬ ((k : Int) < 64))) [(4, rV 2 0), (5, oV 4 0 k 2), (6, sV .i64 (ka3 (i * 2) (kB a n)) ((qA a n) - i)), (7, sV .i64 (ka3 (j * 2) (kB b m)) ((qA b m) - j)), (25, bV false)] [(2, some (60, .ds [qQ])), (4, some (95, .ds (dI .i64 o)))] 5 ⟨zo, zo, zo⟩ ?_
    refine zf ?_
    refine AW.exit ?_
    refine kI [.no, .no, .no] True [(4, rV 2 0)] [(2, some (60, .cs [.own 4 0 k 2 true])), (4, some (95, .ds (dI .i64 o)))] 5 trivial ?_
    obtain ⟨hz1, hz2⟩ := hX.fin (qC ha) (qC hb) zo zo
    refine AW.freeze 4 (l' := [(4, rV 2 0)]) (g' := [(2, some (60, .ds [dl o k]))]) rfl (FzS.cons rfl (.same _) FzS.nil) (FzG.to (bc := .cs [.own 4 0 k 2 true]) rfl (by rfl) (FzL.cons (@FzC.own 4 ((dI .i64 o) : List D) 0 k 2 true ((dI .i64 o) : List D) k0a eJ) FzL.nil) FzG.nil) ?_
    refine AW.ret ?_
    exact EndP.of (.inr rfl) [] (P := (((dI .i64 (uN (kB a n) (kB b m))) : List D) = (dI .i64 o)) ∧ (((qT (kB a n) (kB b m)) : Nat) = k)) zk ⟨(by first | exact congrArg _ hz1.symm | rfl), rO⟩
  ·refine kI [.no, .no, .b true, .no, .no, .no, .b false, .no, .no, .no] ((((0 : Int) < ((((qA a n) - i) : Nat) : Int))) ∧ (¬ ((0 : Int) < ((((qA b m) - j) : Nat) : Int)))) [(4, rV 2 0), (5, oV 4 0 k 2), (6, sV .i64 (ka3 (i * 2) (kB a n)) ((qA a n) - i)), (7, sV .i64 (ka3 (j * 2) (kB b m)) ((qA b m) - j)), (25, bV false)] [(2, some (60, .ds [qQ])), (4, some (95, .ds (dI .i64 o)))] 5 ⟨zo, zo⟩ ?_
   refine zf ?_
   refine AW.exit ?_
   refine kI [.no, .no, .no] True [(4, rV 2 0)] [(2, some (60, .cs [.own 4 0 k 2 true])), (4, some (95, .ds (dI .i64 o)))] 5 trivial ?_
   obtain ⟨hz1, hz2⟩ := hX.fin (qC ha) (qC hb) zo zo
   refine AW.freeze 4 (l' := [(4, rV 2 0)]) (g' := [(2, some (60, .ds [dl o k]))]) rfl (FzS.cons rfl (.same _) FzS.nil) (FzG.to (bc := .cs [.own 4 0 k 2 true]) rfl (by rfl) (FzL.cons (@FzC.own 4 ((dI .i64 o) : List D) 0 k 2 true ((dI .i64 o) : List D) k0a eJ) FzL.nil) FzG.nil) ?_
   refine AW.ret ?_
   exact EndP.of (.inr rfl) [] (P := (((dI .i64 (uN (kB a n) (kB b m))) : List D) = (dI .i64 o)) ∧ (((qT (kB a n) (kB b m)) : Nat) = k)) zk ⟨(by first | exact congrArg _ hz1.symm | rfl), rO⟩
 ·refine kI (.no :: .no :: .b false :: qN 4 []) (¬ ((0 : Int) < ((((qA a n) - i) : Nat) : Int))) [(4, rV 2 0), (5, oV 4 0 k 2), (6, sV .i64 (ka3 (i * 2) (kB a n)) ((qA a n) - i)), (7, sV .i64 (ka3 (j * 2) (kB b m)) ((qA b m) - j)), (25, bV false)] [(2, some (60, .ds [qQ])), (4, some (95, .ds (dI .i64 o)))] 5 zo ?_
  refine zf ?_
  refine AW.exit ?_
  refine kI [.no, .no, .no] True [(4, rV 2 0)] [(2, some (60, .cs [.own 4 0 k 2 true])), (4, some (95, .ds (dI .i64 o)))] 5 trivial ?_
  obtain ⟨hz1, hz2⟩ := hX.fin (qC ha) (qC hb) zo zo
  refine AW.freeze 4 (l' := [(4, rV 2 0)]) (g' := [(2, some (60, .ds [dl o k]))]) rfl (FzS.cons rfl (.same _) FzS.nil) (FzG.to (bc := .cs [.own 4 0 k 2 true]) rfl (by rfl) (FzL.cons (@FzC.own 4 ((dI .i64 o) : List D) 0 k 2 true ((dI .i64 o) : List D) k0a eJ) FzL.nil) FzG.nil) ?_
  refine AW.ret ?_
  exact EndP.of (.inr rfl) [] (P := (((dI .i64 (uN (kB a n) (kB b m))) : List D) = (dI .i64 o)) ∧ (((qT (kB a n) (kB b m)) : Nat) = k)) zk ⟨(by first | exact congrArg _ hz1.symm | rfl), rO⟩
theorem k09 {p : Prop} (h : p := by first | rfl | assumption | exact decide_eq_true (by omega) | exact decide_eq_false (by omega) | (simp; omega)) : p := h
theorem rC (p q u w : Int)  : Fun 157 [.agg [iC p, iC q], .c (.ptr 0 0)] (kF [(0, some (95, .ds [iD u, iD w]))]) 1 (u1 (D.lit (.bool (decide (p ≤ u ∧ w ≤ q))))) (kF [(0, some (95, .ds [iD u, iD w]))]) 1 := by
 refine Fun.mk (n := 16) Tryz.func157 rfl rfl (ka4 rfl) ?_
 intro cx hcx
 refine kI [.no, .no] True [(1, rV 0 0), (2, rV 1 0)] [(0, some (95, .ds [iD u, iD w])), (1, some (95, .ds [iD p, iD q]))] 2 trivial ?_
 by_cases hx1 : (p ≤ u)
 ·by_cases hx2 : (w ≤ q)
  ·refine kI (qN 4 (.b true :: qN 5 [.b true, .no, .no])) (((p ≤ u)) ∧ ((w ≤ q))) [(3, bV true)] [(0, some (95, .ds [iD u, iD w]))] 2 ⟨zo, zo⟩ ?_
   refine AW.ret ?_
   exact EndP.of (.inr rfl) [] (P := ((decide (p ≤ u ∧ w ≤ q)) = true) ∧ (kM [iD u, iD w])) zk ⟨k09, rfl⟩
  ·refine kI (qN 4 (.b true :: qN 5 [.b false, .no, .no])) (((p ≤ u)) ∧ (¬ (w ≤ q))) [(3, bV false)] [(0, some (95, .ds [iD u, iD w]))] 2 ⟨zo, zo⟩ ?_
   refine AW.ret ?_
   exact EndP.of (.inr rfl) [] (P := ((decide (p ≤ u ∧ w ≤ q)) = false) ∧ (kM [iD u, iD w])) zk ⟨k09, rfl⟩
 ·refine kI (qN 4 [.b false, .no, .no, .no]) (¬ (p ≤ u)) [(3, bV false)] [(0, some (95, .ds [iD u, iD w]))] 2 zo ?_
  refine AW.ret ?_
  exact EndP.of (.inr rfl) [] (P := ((decide (p ≤ u ∧ w ≤ q)) = false) ∧ (kM [iD u, iD w])) zk ⟨k09, rfl⟩
theorem l4 (b : List Int) (m : Nat) (u w : Int) (hb : ka0 b = m * 2) (h2 : m ≤ 1000000) : Fun 169 [.c (.d (D.sl (dI .i64 b) m)), .c (.fn 157 [(0, 0)])] (kF [(0, some (95, .ds [iD u, iD w]))]) 1 (iV (mP b u w m)) (kF [(0, some (95, .ds [iD u, iD w]))]) 1 := by
 refine Fun.mk (n := 19) Tryz.func169 rfl rfl (ka4 rfl) ?_
 intro cx hcx
 refine kI [.no] True [(0, sV .i64 b m), (1, .e (.c (.fn 157 [(0, 0)])))] [(0, some (95, .ds [iD u, iD w]))] 1 trivial ?_
 refine AW.seq ?_
 refine kS [.no, .no, .no] True [(0, sV .i64 b m), (1, .e (.c (.fn 157 [(0, 0)]))), (7, uV m), (8, iV 0)] trivial ?_
 refine AW.block ?_
 refine qF 1 hcx (fun (x : {x : Nat // match x with | k => (k ≤ m) ∧ (mP b u w k = -1)}) => match x with | ⟨k, _⟩ => (⟨[(0, sV .i64 b m), (1, .e (.c (.fn 157 [(0, 0)]))), (7, uV m), (8, uV k)], [(0, some (95, .ds [iD u, iD w]))], 1⟩ : ES)) (fun x => match x with | ⟨k, _⟩ => m - k) ⟨(0 : Nat), ⟨vX, rfl⟩⟩ [] (P := (kM (dI .i64 b)) ∧ (kH m) ∧ (kP (m : Int)) ∧ (kP 0) ∧ (kM [iD u, iD w])) zk ⟨rfl, rfl, rfl, rfl, rfl⟩ ?_
 rintro ⟨k, hinv0⟩
 obtain ⟨hk, hi⟩ : (k ≤ m) ∧ (mP b u w k = -1) := hinv0
 refine uG (l := [(0, sV .i64 b m), (1, .e (.c (.fn 157 [(0, 0)]))), (7, uV m), (8, uV k)]) (g := [(0, some (95, .ds [iD u, iD w]))]) (nx := 1) rfl rfl rfl ?_
 by_cases hx1 : (((k : Nat) : Int) < ((m : Nat) : Int))
 ·refine kI [.b true] (((k : Int) < (m : Int))) [(0, sV .i64 b m), (1, .e (.c (.fn 157 [(0, 0)]))), (7, uV m), (8, uV k), (9, bV true)] [(0, some (95, .ds [iD u, iD w]))] 1 zo ?_
  refine AW.seq ?_
  refine vO ?_
  refine AW.seq ?_
  refine AW.block ?_
  refine kS [.no, .no] True [(0, sV .i64 b m), (1, .e (.c (.fn 157 [(0, 0)]))), (5, uV k), (7, uV m), (8, uV k)] trivial ?_
  rcases kb3 (decide ((ka1 b (k * 2) 0) ≤ u ∧ w ≤ (ka1 b ((k * 2) + 1) 0))) with hx2 | hx2
  ·have hx3 : (((ka1 b (k * 2) 0) ≤ u) ∧ (w ≤ (ka1 b ((k * 2) + 1) 0))) := of_decide_eq_true hx2
   refine kS [.no, .no, .no, .n k, .ds [iD (ka1 b (k * 2) 0), iD (ka1 b ((k * 2) + 1) 0)], .call [0] (bV true) [(0, some (95, .ds [iD u, iD w]))] 1 [] none] ((kP (k : Int)) ∧ (k < m) ∧ (ka5 2 (ka3 (k * 2) (dI .i64 b)) = [iD (ka1 b (k * 2) 0), iD (ka1 b ((k * 2) + 1) 0)]) ∧ (([iD (ka1 b (k * 2) 0), iD (ka1 b ((k * 2) + 1) 0)] : List D).length = 2) ∧ (Fun 157 [.agg [iC (ka1 b (k * 2) 0), iC (ka1 b ((k * 2) + 1) 0)], .c (.ptr 0 0)] (kF [(0, some (95, .ds [iD u, iD w]))]) 1 (bV true) (kF [(0, some (95, .ds [iD u, iD w]))]) 1)) [(0, sV .i64 b m), (1, .e (.c (.fn 157 [(0, 0)]))), (5, uV k), (7, uV m), (8, uV k), (16, bV true)] ⟨rfl, zo, (b7 .i64 b (k * 2) 2 eJ), rfl, (by have h0 := (rC (ka1 b (k * 2) 0) (ka1 b ((k * 2) + 1) 0) u w); rw [hx2] at h0; exact h0)⟩ ?_
   refine zt ?_
   refine kS [.no, .no] True [(4, uV k)] trivial ?_
   refine AW.ret ?_
   exact EndP.of (.inr rfl) [] (P := (((mP b u w m) : Int) = (k : Int)) ∧ (kM [iD u, iD w])) zk ⟨(by first | rfl | exact tQ hi zo m zo | (rw [show m = k by omega]; exact hi) | omega), rfl⟩
  ·have hx4 : ¬ (((ka1 b (k * 2) 0) ≤ u) ∧ (w ≤ (ka1 b ((k * 2) + 1) 0))) := of_decide_eq_false hx2
   refine kS [.no, .no, .no, .n k, .ds [iD (ka1 b (k * 2) 0), iD (ka1 b ((k * 2) + 1) 0)], .call [0] (bV false) [(0, some (95, .ds [iD u, iD w]))] 1 [] none] ((kP (k : Int)) ∧ (k < m) ∧ (ka5 2 (ka3 (k * 2) (dI .i64 b)) = [iD (ka1 b (k * 2) 0), iD (ka1 b ((k * 2) + 1) 0)]) ∧ (([iD (ka1 b (k * 2) 0), iD (ka1 b ((k * 2) + 1) 0)] : List D).length = 2) ∧ (Fun 157 [.agg [iC (ka1 b (k * 2) 0), iC (ka1 b ((k * 2) + 1) 0)], .c (.ptr 0 0)] (kF [(0, some (95, .ds [iD u, iD w]))]) 1 (bV false) (kF [(0, some (95, .ds [iD u, iD w]))]) 1)) [(0, sV .i64 b m), (1, .e (.c (.fn 157 [(0, 0)]))), (5, uV k), (7, uV m), (8, uV k), (16, bV false)] ⟨rfl, zo, (b7 .i64 b (k * 2) 2 eJ), rfl, (by have h0 := (rC (ka1 b (k * 2) 0) (ka1 b ((k * 2) + 1) 0) u w); rw [hx2] at h0; exact h0)⟩ ?_
   refine u9 ?_
   refine yK [.w, .no] ((-9223372036854775808) ≤ ((k : Int) + 1) ∧ ((k : Int) + 1) ≤ 9223372036854775807) [(0, sV .i64 b m), (1, .e (.c (.fn 157 [(0, 0)]))), (7, uV m), (8, iV (↑k + 1))] ⟨by omega, by omega⟩ ?_
   exact Rd.of ⟨((k + 1) : Nat), ⟨vX, (k3h hi zo)⟩⟩ [] (P := (kM (dI .i64 b)) ∧ (kH m) ∧ (kP (m : Int)) ∧ (((((k + 1) : Nat) : Int) : Int) = ((k : Int) + 1)) ∧ (kM [iD u, iD w])) zk ⟨rfl, rfl, rfl, cM, rfl⟩ (show m - (k + 1) < m - k from eI)
 ·refine kI [.b false] (¬ ((k : Int) < (m : Int))) [(0, sV .i64 b m), (1, .e (.c (.fn 157 [(0, 0)]))), (7, uV m), (8, uV k), (9, bV false)] [(0, some (95, .ds [iD u, iD w]))] 1 zo ?_
  refine AW.seq ?_
  refine zf ?_
  refine AW.exit ?_
  refine kI [.no] True [(4, iV (-1))] [(0, some (95, .ds [iD u, iD w]))] 1 trivial ?_
  refine AW.ret ?_
  exact EndP.of (.inr rfl) [] (P := (((mP b u w m) : Int) = (-1)) ∧ (kM [iD u, iD w])) zk ⟨(by first | rfl | exact tQ hi zo m zo | (rw [show m = k by omega]; exact hi) | omega), rfl⟩
theorem oC (b : List Int) (m : Nat) (u w : Int) (hb : ka0 b = m * 2) (h2 : m ≤ 1000000) : Fun 158 [.c (.d (D.sl (dI .i64 b) m)), .c (.fn 157 [(0, 0)])] (kF [(0, some (95, .ds [iD u, iD w]))]) 1 (u1 (D.lit (.bool (coB b u w)))) (kF [(0, some (95, .ds [iD u, iD w]))]) 1 := by
 refine Fun.mk (n := 9) Tryz.func158 rfl rfl (ka4 rfl) ?_
 intro cx hcx
 refine kI [.no] True [(0, sV .i64 b m), (1, .e (.c (.fn 157 [(0, 0)])))] [(0, some (95, .ds [iD u, iD w]))] 1 trivial ?_
 by_cases hx1 : ((0 : Int) ≤ (mP b u w m))
 ·refine kS [.no, .no, .call [0] (iV (mP b u w m)) [(0, some (95, .ds [iD u, iD w]))] 1 [] none, .b true, .no] ((_) ∧ (((0 : Int) ≤ (mP b u w m)))) [(4, bV true)] ⟨(l4 b m u w zo zo), zo⟩ ?_
  refine AW.ret ?_
  exact EndP.of (.inr rfl) [] (P := ((coB b u w) = true) ∧ (kM [iD u, iD w])) zk ⟨(by first | exact v1z hb zo | exact v20 hb zo), rfl⟩
 ·refine kS [.no, .no, .call [0] (iV (mP b u w m)) [(0, some (95, .ds [iD u, iD w]))] 1 [] none, .b false, .no] ((_) ∧ (¬ ((0 : Int) ≤ (mP b u w m)))) [(4, bV false)] ⟨(l4 b m u w zo zo), zo⟩ ?_
  refine AW.ret ?_
  exact EndP.of (.inr rfl) [] (P := ((coB b u w) = false) ∧ (kM [iD u, iD w])) zk ⟨(by first | exact v1z hb zo | exact v20 hb zo), rfl⟩
theorem jX {p : Prop} (h : p := by first | omega | with_reducible assumption | (simp only [uU, ka6, ka9, kb0, kb1, kb2, kb4, kb8] <;> omega) | rfl | assumption) : p := h
abbrev g8 (a : List Int) (n : Nat) (k : Nat) : BC := .ds [iD (ka1 (kB a n) (k * 2) 0), iD (ka1 (kB a n) ((k * 2) + 1) 0)]
theorem eE (a b : List Int) (n m : Nat) (ha : ka0 a = n * 2) (hb : ka0 b = m * 2) (h3 : n ≤ 9223372036854775807) (h4 : m ≤ 9223372036854775807) : Fun 131 [.agg [.d (D.sl (dI .i64 a) n)], .agg [.d (D.sl (dI .i64 b) m)]] (kF []) 0 (u1 (D.lit (.bool (xZ (kB a n) (kB b m))))) (kF []) 0 := by
 refine Fun.mk (n := 24) Tryz.func131 rfl rfl (ka4 rfl) ?_
 intro cx hcx
 refine kI [.no, .no, .no] True [(2, rV 0 0), (3, rV 1 0)] [(0, some (60, .ds [dl a n])), (1, some (60, .ds [dl b m]))] 2 trivial ?_
 have hx1 : ((ka0 (kB b m)) = ((qA b m) * 2)) := qC (zo)
 have hx2 : (((qA b m) ≤ 64) ∧ ((qA b m) ≤ m)) := lU
 refine kI [.no, .call [] (sV .i64 (kB b m) (qA b m)) [] 0 [] none, .no] _ [(2, rV 0 0), (5, sV .i64 (kB b m) (qA b m))] [(0, some (60, .ds [dl a n]))] 2 (gH b m zo zo) ?_
 refine AW.seq ?_
 have hx3 : ((ka0 (kB a n)) = ((qA a n) * 2)) := qC (zo)
 have hx4 : (((qA a n) ≤ 64) ∧ ((qA a n) ≤ n)) := lU
 refine kI [.no, .call [] (sV .i64 (kB a n) (qA a n)) [] 0 [] none, .no, .no] _ [(5, sV .i64 (kB b m) (qA b m)), (12, sV .i64 (kB a n) (qA a n)), (13, uV (qA a n)), (14, iV 0)] [] 2 (gH a n zo zo) ?_
 refine AW.block ?_
 refine qF 0 hcx (fun (x : {x : Nat // match x with | k => (k ≤ qA a n) ∧ (∀ j, j < k → coB (kB b m) (ka1 (kB a n) (j * 2) 0) (ka1 (kB a n) (j * 2 + 1) 0) = true)}) => match x with | ⟨k, _⟩ => (⟨[(5, sV .i64 (kB b m) (qA b m)), (12, sV .i64 (kB a n) (qA a n)), (13, uV (qA a n)), (14, uV k)], [], 2⟩ : ES)) (fun x => match x with | ⟨k, _⟩ => qA a n - k) ⟨(0 : Nat), ⟨vX, (fun j hj => absurd hj (Nat.not_lt_zero j))⟩⟩ [] (P := (kM (dI .i64 (kB b m))) ∧ (kH (qA b m)) ∧ (kM (dI .i64 (kB a n))) ∧ (kH (qA a n)) ∧ (kP (qA a n : Int)) ∧ (kP 0)) zk ⟨rfl, rfl, rfl, rfl, rfl, rfl⟩ ?_
 rintro ⟨k, hinv0⟩
 obtain ⟨hk, hq⟩ : (k ≤ qA a n) ∧ (∀ j, j < k → coB (kB b m) (ka1 (kB a n) (j * 2) 0) (ka1 (kB a n) (j * 2 + 1) 0) = true) := hinv0
 refine uG (l := [(5, sV .i64 (kB b m) (qA b m)), (12, sV .i64 (kB a n) (qA a n)), (13, uV (qA a n)), (14, uV k)]) (g := []) (nx := 2) rfl rfl rfl ?_
 by_cases hx5 : (((k : Nat) : Int) < (((qA a n) : Nat) : Int))
 ·refine kI [.b true] (((k : Int) < (qA a n : Int))) [(5, sV .i64 (kB b m) (qA b m)), (12, sV .i64 (kB a n) (qA a n)), (13, uV (qA a n)), (14, uV k), (15, bV true)] [] 2 zo ?_
  refine AW.seq ?_
  refine vO ?_
  refine AW.seq ?_
  refine AW.block ?_
  refine kI [.n k, .ds [iD (ka1 (kB a n) (k * 2) 0), iD (ka1 (kB a n) ((k * 2) + 1) 0)], .no, .no] ((kP (k : Int)) ∧ (k < (qA a n)) ∧ (ka5 2 (ka3 (k * 2) (dI .i64 (kB a n))) = [iD (ka1 (kB a n) (k * 2) 0), iD (ka1 (kB a n) ((k * 2) + 1) 0)]) ∧ (([iD (ka1 (kB a n) (k * 2) 0), iD (ka1 (kB a n) ((k * 2) + 1) 0)] : List D).length = 2)) [(5, sV .i64 (kB b m) (qA b m)), (7, rV 2 0), (12, sV .i64 (kB a n) (qA a n)), (13, uV (qA a n)), (14, uV k)] [(2, some (95, (g8 a n k)))] 3 ⟨rfl, zo, (b7 .i64 (kB a n) (k * 2) 2 eJ), rfl⟩ ?_
  refine kS [.no, .no] True [(5, sV .i64 (kB b m) (qA b m)), (8, .e (.c (.fn 157 [(2, 0)]))), (12, sV .i64 (kB a n) (qA a n)), (13, uV (qA a n)), (14, uV k)] trivial ?_
  rcases kb3 (coB (kB b m) (ka1 (kB a n) (k * 2) 0) (ka1 (kB a n) ((k * 2) + 1) 0)) with hx6 | hx6
  ·refine kI [.no, .no, .call [2] (bV true) [(0, some (95, (g8 a n k)))] 1 [] none, .no] (Fun 158 [.c (.d (dl (kB b m) (qA b m))), .c (.fn 157 [(0, 0)])] (kF [(0, some (95, (g8 a n k)))]) 1 (bV true) (kF [(0, some (95, (g8 a n k)))]) 1) [(5, sV .i64 (kB b m) (qA b m)), (12, sV .i64 (kB a n) (qA a n)), (13, uV (qA a n)), (14, uV k), (22, bV false)] [] 3 (by have h0 := (oC (kB b m) (qA b m) (ka1 (kB a n) (k * 2) 0) (ka1 (kB a n) ((k * 2) + 1) 0) jX jX); rw [hx6] at h0; exact h0) ?_
   refine u9 ?_
   refine yK [.w, .no] ((-9223372036854775808) ≤ ((k : Int) + 1) ∧ ((k : Int) + 1) ≤ 9223372036854775807) [(5, sV .i64 (kB b m) (qA b m)), (12, sV .i64 (kB a n) (qA a n)), (13, uV (qA a n)), (14, iV (↑k + 1))] ⟨by omega, by omega⟩ ?_
   exact Rd.of ⟨((k + 1) : Nat), ⟨vX, (fun j hj => (Nat.lt_succ_iff_lt_or_eq.1 hj).elim (hq j) (fun e9 => by subst e9; assumption))⟩⟩ [] (P := (kM (dI .i64 (kB b m))) ∧ (kH (qA b m)) ∧ (kM (dI .i64 (kB a n))) ∧ (kH (qA a n)) ∧ (kP (qA a n : Int)) ∧ (((((k + 1) : Nat) : Int) : Int) = ((k : Int) + 1))) zk ⟨rfl, rfl, rfl, rfl, rfl, cM⟩ (show qA a n - (k + 1) < qA a n - k from eI)
  ·refine kI [.no, .no, .call [2] (bV false) [(0, some (95, (g8 a n k)))] 1 [] none, .no] (Fun 158 [.c (.d (dl (kB b m) (qA b m))), .c (.fn 157 [(0, 0)])] (kF [(0, some (95, (g8 a n k)))]) 1 (bV false) (kF [(0, some (95, (g8 a n k)))]) 1) [(5, sV .i64 (kB b m) (qA b m)), (12, sV .i64 (kB a n) (qA a n)), (13, uV (qA a n)), (14, uV k), (22, bV true)] [] 3 (by have h0 := (oC (kB b m) (qA b m) (ka1 (kB a n) (k * 2) 0) (ka1 (kB a n) ((k * 2) + 1) 0) jX jX); rw [hx6] at h0; exact h0) ?_
   refine zt ?_
   refine kS [.no] True [(4, bV false)] trivial ?_
   refine AW.ret ?_
   exact EndP.of (.inr rfl) [] (P := ((xZ (kB a n) (kB b m)) = false)) zk (by first | exact v1b (qC ha) (fun j hj => hq j zo) | exact v1c (k := k) (qC ha) zo (by assumption))
 ·refine kI [.b false] (¬ ((k : Int) < (qA a n : Int))) [(5, sV .i64 (kB b m) (qA b m)), (12, sV .i64 (kB a n) (qA a n)), (13, uV (qA a n)), (14, uV k), (15, bV false)] [] 2 zo ?_
  refine AW.seq ?_
  refine zf ?_
  refine AW.exit ?_
  refine kI [.no] True [(4, bV true)] [] 2 trivial ?_
  refine AW.ret ?_
  exact EndP.of (.inr rfl) [] (P := ((xZ (kB a n) (kB b m)) = true)) zk (by first | exact v1b (qC ha) (fun j hj => hq j zo) | exact v1c (k := k) (qC ha) zo (by assumption))
theorem wA (a b : Int) (ha : -9223372036854775808 ≤ a ∧ a ≤ 9223372036854775807) (hb : -9223372036854775808 ≤ b ∧ b ≤ 9223372036854775807) : Fun 148 [iE a, iE b] (kF []) 0 (u1 (D.lit (.int .u64 (aQ a b)))) (kF []) 0 := by
 refine Fun.mk (n := 18) Tryz.func148 rfl rfl (ka4 rfl) ?_
 intro cx hcx
 refine kI [.no] True [(0, iV a), (1, iV b)] [] 0 trivial ?_
 refine AW.seq ?_
 by_cases hx1 : (b < a)
 ·refine kS [.no, .no, .b true] ((b < a)) [(0, iV a), (1, iV b), (7, bV true)] zo ?_
  refine zt ?_
  refine kS [.no, .i (a % 18446744073709551616), .no, .i (b % 18446744073709551616), .i (a - b), .no] ((IntKind.u64.wrap (a : Int) = (a % 18446744073709551616)) ∧ (IntKind.u64.wrap (b : Int) = (b % 18446744073709551616)) ∧ (IntKind.u64.wrap (((a % 18446744073709551616) - (b % 18446744073709551616)) : Int) = (a - b))) [(4, u1 (D.lit (.int .u64 (a - b))))] ⟨(dY _), (dY _), (by rw [dY]; omega)⟩ ?_
  refine AW.ret ?_
  exact EndP.of (.inr rfl) [] (P := (((aQ a b) : Int) = (a - b))) zk (by unfold aQ; split <;> omega)
 ·refine kS [.no, .no, .b false] (¬ (b < a)) [(0, iV a), (1, iV b), (7, bV false)] zo ?_
  refine u9 ?_
  refine kS [.no, .i (b % 18446744073709551616), .no, .i (a % 18446744073709551616), .i (b - a), .no] ((IntKind.u64.wrap (b : Int) = (b % 18446744073709551616)) ∧ (IntKind.u64.wrap (a : Int) = (a % 18446744073709551616)) ∧ (IntKind.u64.wrap (((b % 18446744073709551616) - (a % 18446744073709551616)) : Int) = (b - a))) [(4, u1 (D.lit (.int .u64 (b - a))))] ⟨(dY _), (dY _), (by rw [dY]; omega)⟩ ?_
  refine AW.ret ?_
  exact EndP.of (.inr rfl) [] (P := (((aQ a b) : Int) = (b - a))) zk (by unfold aQ; split <;> omega)
theorem u0q (l : List Int) (n : Nat) (z : Int) (hl : ka0 l = n * 2) (hb : n ≤ 9223372036854775807) (hz : -9223372036854775808 ≤ z ∧ z ≤ 9223372036854775807) : Fun 114 [.agg [.d (D.sl (dI .i64 l) n)], iE z] (kF []) 0 (.tup [iE (vG z (kB l n)), .c (.d (D.lit (.bool (nrF z (kB l n)))))]) (kF []) 0 := by
 refine Fun.mk (n := 40) Tryz.func114 rfl rfl (ka4 rfl) ?_
 intro cx hcx
 refine kI [.no, .no, .no] True [(1, iV z), (2, rV 0 0)] [(0, some (60, .ds [dl l n]))] 1 trivial ?_
 refine kS [.no, .no] True [(1, iV z), (2, rV 0 0), (6, iV 0), (7, bV false)] trivial ?_
 refine AW.seq ?_
 have hx1 : ((ka0 (kB l n)) = ((qA l n) * 2)) := qC (zo)
 have hx2 : (((qA l n) ≤ 64) ∧ ((qA l n) ≤ n)) := lU
 refine kI [.no, .call [] (sV .i64 (kB l n) (qA l n)) [] 0 [] none, .no, .no] _ [(1, iV z), (6, iV 0), (7, bV false), (12, sV .i64 (kB l n) (qA l n)), (13, uV (qA l n)), (14, iV 0)] [] 1 (gH l n zo zo) ?_
 refine AW.block ?_
 refine qF 0 hcx (fun (x : {x : Nat × Int × Bool // match x with | (i, y, f) => (i ≤ qA l n ∧ -9223372036854775808 ≤ y ∧ y ≤ 9223372036854775807) ∧ (NR z (kB l n) i y f)}) => match x with | ⟨(i, y, f), _⟩ => (⟨[(1, iV z), (6, iV y), (7, u1 (D.lit (.bool (f)))), (12, sV .i64 (kB l n) (qA l n)), (13, uV (qA l n)), (14, uV i)], [], 1⟩ : ES)) (fun x => match x with | ⟨(i, y, f), _⟩ => qA l n - i) ⟨((0 : Nat), (0 : Int), (false : Bool)), ⟨vX, (NR.zero _ _)⟩⟩ [] (P := (kP z) ∧ (kP 0) ∧ ((false) = false) ∧ (kM (dI .i64 (kB l n))) ∧ (kH (qA l n)) ∧ (kP (qA l n : Int)) ∧ (kP 0)) zk ⟨rfl, rfl, (by first | rfl | assumption | simp), rfl, rfl, rfl, rfl⟩ ?_
 rintro ⟨⟨i, y, f⟩, hinv0⟩
 obtain ⟨hi, hN⟩ : (i ≤ qA l n ∧ -9223372036854775808 ≤ y ∧ y ≤ 9223372036854775807) ∧ (NR z (kB l n) i y f) := hinv0
 refine uG (l := [(1, iV z), (6, iV y), (7, u1 (D.lit (.bool (f)))), (12, sV .i64 (kB l n) (qA l n)), (13, uV (qA l n)), (14, uV i)]) (g := []) (nx := 1) rfl rfl rfl ?_
 by_cases hx3 : (((i : Nat) : Int) < (((qA l n) : Nat) : Int))
 ·have hx4 : 0 ≤ ka1 (kB l n) (i * 2) 0 ∧ ka1 (kB l n) (i * 2) 0 ≤ ka1 (kB l n) (i * 2 + 1) 0 ∧ ka1 (kB l n) (i * 2 + 1) 0 ≤ 2147483647 := u9m hl i zo
  refine kI [.b true] (((i : Int) < (qA l n : Int))) [(1, iV z), (6, iV y), (7, u1 (D.lit (.bool (f)))), (12, sV .i64 (kB l n) (qA l n)), (13, uV (qA l n)), (14, uV i), (15, bV true)] [] 1 zo ?_
  refine AW.seq ?_
  refine vO ?_
  refine AW.seq ?_
  refine AW.block ?_
  refine kI [.n i, .ds [iD (ka1 (kB l n) (i * 2) 0), iD (ka1 (kB l n) ((i * 2) + 1) 0)], .no, .no] ((kP (i : Int)) ∧ (i < (qA l n)) ∧ (ka5 2 (ka3 (i * 2) (dI .i64 (kB l n))) = [iD (ka1 (kB l n) (i * 2) 0), iD (ka1 (kB l n) ((i * 2) + 1) 0)]) ∧ (([iD (ka1 (kB l n) (i * 2) 0), iD (ka1 (kB l n) ((i * 2) + 1) 0)] : List D).length = 2)) [(1, iV z), (6, iV y), (7, u1 (D.lit (.bool (f)))), (9, rV 1 0), (12, sV .i64 (kB l n) (qA l n)), (13, uV (qA l n)), (14, uV i)] [(1, some (95, .ds [iD (ka1 (kB l n) (i * 2) 0), iD (ka1 (kB l n) ((i * 2) + 1) 0)]))] 2 ⟨rfl, zo, (b7 .i64 (kB l n) (i * 2) 2 eJ), rfl⟩ ?_
  refine kI (qN 8 []) True [(1, iV z), (6, iV y), (7, u1 (D.lit (.bool (f)))), (10, iV (min (max z (ka1 (kB l n) (i * 2) 0)) (ka1 (kB l n) ((i * 2) + 1) 0))), (12, sV .i64 (kB l n) (qA l n)), (13, uV (qA l n)), (14, uV i)] [] 2 trivial ?_
  rcases kb3 (f) with hx5 | hx5
  ·subst hx5
   by_cases hx8 : ((aQ (min (max z (ka1 (kB l n) (i * 2) 0)) (ka1 (kB l n) ((i * 2) + 1) 0)) z) < (aQ y z))
   ·have hx9 : ((0 : Int) ≤ (aQ (min (max z (ka1 (kB l n) (i * 2) 0)) (ka1 (kB l n) ((i * 2) + 1) 0)) z)) := tN
    have hx10 : ((0 : Int) ≤ (aQ y z)) := tN
    refine kI (qN 5 [.call [] (u1 (D.lit (.int .u64 (aQ (min (max z (ka1 (kB l n) (i * 2) 0)) (ka1 (kB l n) ((i * 2) + 1) 0)) z)))) [] 0 [] none, .no, .no, .call [] (u1 (D.lit (.int .u64 (aQ y z)))) [] 0 [] none, .b true, .no]) ((_) ∧ (_) ∧ (((aQ (min (max z (ka1 (kB l n) (i * 2) 0)) (ka1 (kB l n) ((i * 2) + 1) 0)) z) < (aQ y z)))) [(1, iV z), (6, iV y), (7, bV true), (10, iV (min (max z (ka1 (kB l n) (i * 2) 0)) (ka1 (kB l n) ((i * 2) + 1) 0))), (12, sV .i64 (kB l n) (qA l n)), (13, uV (qA l n)), (14, uV i), (35, bV true)] [] 2 ⟨(wA (min (max z (ka1 (kB l n) (i * 2) 0)) (ka1 (kB l n) ((i * 2) + 1) 0)) z jX zo), (wA y z zo zo), zo⟩ ?_
    refine zt ?_
    refine yK [.no, .no, .no] True [(1, iV z), (6, iV (min (max z (ka1 (kB l n) (i * 2) 0)) (ka1 (kB l n) ((i * 2) + 1) 0))), (7, bV true), (12, sV .i64 (kB l n) (qA l n)), (13, uV (qA l n)), (14, uV i)] trivial ?_
    refine yK [.w, .no] ((-9223372036854775808) ≤ ((i : Int) + 1) ∧ ((i : Int) + 1) ≤ 9223372036854775807) [(1, iV z), (6, iV (min (max z (ka1 (kB l n) (i * 2) 0)) (ka1 (kB l n) ((i * 2) + 1) 0))), (7, bV true), (12, sV .i64 (kB l n) (qA l n)), (13, uV (qA l n)), (14, iV (↑i + 1))] ⟨by omega, by omega⟩ ?_
    exact Rd.of ⟨(((i + 1) : Nat), ((min (max z (ka1 (kB l n) (i * 2) 0)) (ka1 (kB l n) ((i * 2) + 1) 0)) : Int), (true : Bool)), ⟨vX, (by first | exact hN.first (qC hl) zo (by show _ = max _ (min _ z); first | (simp only; done) | (simp only; omega) | omega) | exact hN.near (qC hl) zo (by show _ = max _ (min _ z); first | (simp only; done) | (simp only; omega) | omega) zo | exact hN.far (qC hl) zo (by assumption) (by show _ = max _ (min _ z); first | (simp only; done) | (simp only; omega) | omega))⟩⟩ [] (P := (kP z) ∧ (kP (min (max z (ka1 (kB l n) (i * 2) 0)) (ka1 (kB l n) ((i * 2) + 1) 0))) ∧ ((true) = true) ∧ (kM (dI .i64 (kB l n))) ∧ (kH (qA l n)) ∧ (kP (qA l n : Int)) ∧ (((((i + 1) : Nat) : Int) : Int) = ((i : Int) + 1))) zk ⟨rfl, rfl, (by first | rfl | assumption | simp), rfl, rfl, rfl, cM⟩ (show qA l n - (i + 1) < qA l n - i from eI)
   ·have hx11 : ((0 : Int) ≤ (aQ (min (max z (ka1 (kB l n) (i * 2) 0)) (ka1 (kB l n) ((i * 2) + 1) 0)) z)) := tN
    have hx12 : ((0 : Int) ≤ (aQ y z)) := tN
    refine kI (qN 5 [.call [] (u1 (D.lit (.int .u64 (aQ (min (max z (ka1 (kB l n) (i * 2) 0)) (ka1 (kB l n) ((i * 2) + 1) 0)) z)))) [] 0 [] none, .no, .no, .call [] (u1 (D.lit (.int .u64 (aQ y z)))) [] 0 [] none, .b false, .no]) ((_) ∧ (_) ∧ (¬ ((aQ (min (max z (ka1 (kB l n) (i * 2) 0)) (ka1 (kB l n) ((i * 2) + 1) 0)) z) < (aQ y z)))) [(1, iV z), (6, iV y), (7, bV true), (10, iV (min (max z (ka1 (kB l n) (i * 2) 0)) (ka1 (kB l n) ((i * 2) + 1) 0))), (12, sV .i64 (kB l n) (qA l n)), (13, uV (qA l n)), (14, uV i), (35, bV false)] [] 2 ⟨(wA (min (max z (ka1 (kB l n) (i * 2) 0)) (ka1 (kB l n) ((i * 2) + 1) 0)) z jX zo), (wA y z zo zo), zo⟩ ?_
    refine u9 ?_
    refine yK [.w, .no] ((-9223372036854775808) ≤ ((i : Int) + 1) ∧ ((i : Int) + 1) ≤ 9223372036854775807) [(1, iV z), (6, iV y), (7, bV true), (12, sV .i64 (kB l n) (qA l n)), (13, uV (qA l n)), (14, iV (↑i + 1))] ⟨by omega, by omega⟩ ?_
    exact Rd.of ⟨(((i + 1) : Nat), (y : Int), (true : Bool)), ⟨vX, (by first | exact hN.first (qC hl) zo (by show _ = max _ (min _ z); first | (simp only; done) | (simp only; omega) | omega) | exact hN.near (qC hl) zo (by show _ = max _ (min _ z); first | (simp only; done) | (simp only; omega) | omega) zo | exact hN.far (qC hl) zo (by assumption) (by show _ = max _ (min _ z); first | (simp only; done) | (simp only; omega) | omega))⟩⟩ [] (P := (kP z) ∧ (kP y) ∧ ((true) = true) ∧ (kM (dI .i64 (kB l n))) ∧ (kH (qA l n)) ∧ (kP (qA l n : Int)) ∧ (((((i + 1) : Nat) : Int) : Int) = ((i : Int) + 1))) zk ⟨rfl, rfl, (by first | rfl | assumption | simp), rfl, rfl, rfl, cM⟩ (show qA l n - (i + 1) < qA l n - i from eI)
  ·subst hx5
   refine kI (qN 4 []) True [(1, iV z), (6, iV y), (7, bV false), (10, iV (min (max z (ka1 (kB l n) (i * 2) 0)) (ka1 (kB l n) ((i * 2) + 1) 0))), (12, sV .i64 (kB l n) (qA l n)), (13, uV (qA l n)), (14, uV i), (35, bV true)] [] 2 trivial ?_
   refine zt ?_
   refine yK [.no, .no, .no] True [(1, iV z), (6, iV (min (max z (ka1 (kB l n) (i * 2) 0)) (ka1 (kB l n) ((i * 2) + 1) 0))), (7, bV true), (12, sV .i64 (kB l n) (qA l n)), (13, uV (qA l n)), (14, uV i)] trivial ?_
   refine yK [.w, .no] ((-9223372036854775808) ≤ ((i : Int) + 1) ∧ ((i : Int) + 1) ≤ 9223372036854775807) [(1, iV z), (6, iV (min (max z (ka1 (kB l n) (i * 2) 0)) (ka1 (kB l n) ((i * 2) + 1) 0))), (7, bV true), (12, sV .i64 (kB l n) (qA l n)), (13, uV (qA l n)), (14, iV (↑i + 1))] ⟨by omega, by omega⟩ ?_
   exact Rd.of ⟨(((i + 1) : Nat), ((min (max z (ka1 (kB l n) (i * 2) 0)) (ka1 (kB l n) ((i * 2) + 1) 0)) : Int), (true : Bool)), ⟨vX, (by first | exact hN.first (qC hl) zo (by show _ = max _ (min _ z); first | (simp only; done) | (simp only; omega) | omega) | exact hN.near (qC hl) zo (by show _ = max _ (min _ z); first | (simp only; done) | (simp only; omega) | omega) zo | exact hN.far (qC hl) zo (by assumption) (by show _ = max _ (min _ z); first | (simp only; done) | (simp only; omega) | omega))⟩⟩ [] (P := (kP z) ∧ (kP (min (max z (ka1 (kB l n) (i * 2) 0)) (ka1 (kB l n) ((i * 2) + 1) 0))) ∧ ((true) = true) ∧ (kM (dI .i64 (kB l n))) ∧ (kH (qA l n)) ∧ (kP (qA l n : Int)) ∧ (((((i + 1) : Nat) : Int) : Int) = ((i : Int) + 1))) zk ⟨rfl, rfl, (by first | rfl | assumption | simp), rfl, rfl, rfl, cM⟩ (show qA l n - (i + 1) < qA l n - i from eI)
 ·refine kI [.b false] (¬ ((i : Int) < (qA l n : Int))) [(1, iV z), (6, iV y), (7, u1 (D.lit (.bool (f)))), (12, sV .i64 (kB l n) (qA l n)), (13, uV (qA l n)), (14, uV i), (15, bV false)] [] 1 zo ?_
  refine AW.seq ?_
  refine zf ?_
  refine AW.exit ?_
  refine kI (qN 4 []) True [(4, iV y), (5, u1 (D.lit (.bool (f))))] [] 1 trivial ?_
  obtain ⟨hz1, hz2⟩ := hN.fin (qC hl) zo
  refine AW.ret ?_
  exact EndP.of (.inr rfl) [] (P := (((vG z (kB l n)) : Int) = y) ∧ ((nrF z (kB l n)) = (f))) zk ⟨rO, hz2⟩
end Go.Proofs.YtbicifcgghmhaaaGreat
