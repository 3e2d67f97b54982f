/- Sets of integers: C. No statement is proved here. -/
import Derived.Test.YtcfmjpnffembpaaGreatZL09B
namespace Go.Proofs.YtcfmjpnffembpaaGreat
open Go.ChangeShapes Go.WideShapes Go.ChangeAt Go.RowKit
open Bool renaming eq_false_or_eq_true → ka9
open List renaming drop → ka3, drop_drop → kf2, drop_zero → kc9, getD → ka1, length → ka0, length_append → ka6, length_cons → kb0, length_drop → kb3, length_map → kc5, length_nil → kb1, length_replicate → kb4, length_reverse → kc0, length_set → kb8, length_take → kb2, take → ka5
open Nat renaming le_of_ble_eq_true → ka4, mul_one → kc6
set_option linter.unusedVariables false
set_option linter.unusedSimpArgs false
set_option maxHeartbeats 4000000
set_option maxRecDepth 100000
theorem uZ {p : Prop} (h : p := by first | omega | assumption | simp) : p := h
theorem vV {p : Prop} (h : p := by first | rfl | omega | assumption | (simp; done) | (simp; omega)) : p := h
theorem b9 {p : Prop} (h : p := by first | (rw [kf2]; exact q6 _ _ _ (by first | omega | (simp only [uN, qQ, ka6, kb0, kb1, kb2, kb3, kb4, kb8, kc5, kc0, kc6] <;> omega) | rfl)) | (rw [kf2, Nat.add_comm]; exact q6 _ _ _ (by first | omega | (simp only [uN, qQ, ka6, kb0, kb1, kb2, kb3, kb4, kb8, kc5, kc0, kc6] <;> omega) | rfl))) : p := h
theorem aS {p : Prop} (h : p := by first | omega | (simp only [uN, qQ, ka6, kb0, kb1, kb2, kb3, kb4, kb8, kc5, kc0, kc6] <;> omega) | rfl) : p := h
theorem tD {p : Prop} (h : p := by simp only [dL, aQ, Nat.zero_mul, Nat.one_mul, kc9]) : p := h
theorem l4 {p : Prop} (h : p := by first | assumption | (simp only [uN, ka6, kb0, kb1] <;> omega)) : p := h
theorem aR {p : Prop} (h : p := by first | omega | (show _ < _; simp; omega)) : p := h
theorem tE {p : Prop} (h : p := by rw [kc9, List.take_of_length_le (by first | omega | (simp only [uN, qQ, ka6, kb0, kb1, kb2, kb3, kb4, kb8, kc5, kc0, kc6] <;> omega))]) : p := h
theorem l3 {p : Prop} (h : p := by first | omega | rfl | assumption | (simp; done) | (simp; omega)) : p := h
abbrev u5m (i : Nat) (a : List Int) (n : Nat) (j : Nat) (b : List Int) (m : Nat) : BC := .ds [iD (max (ka1 (ka3 (i * 2) (kC a n)) 0 0) (ka1 (ka3 (j * 2) (kC b m)) 0 0)), iD (min (ka1 (ka3 (i * 2) (kC a n)) 1 0) (ka1 (ka3 (j * 2) (kC b m)) 1 0))]
theorem iI (a b : List Int) (n m : Nat) (ha : ka0 a = n * 2) (hb : ka0 b = m * 2) (h3 : n ≤ 9223372036854775807) (h4 : m ≤ 9223372036854775807) : Fun 117 [.agg [.d (D.sl (dI .i64 a) n)], .agg [.d (D.sl (dI .i64 b) m)]] (kH []) 0 (.e (.agg [.d (D.sl (dI .i64 (uM (kC a n) (kC b m))) (qM (kC a n) (kC b m)))])) (kH []) 0 := by
 refine Fun.mk (n := 69) Tryz.func117 rfl rfl (ka4 rfl) ?_
 intro cx hcx
 refine kK [.no, .no, .no] True [(2, rV 0 0), (3, rV 1 0), (4, rV 2 0)] [(0, some (56, .ds [dl a n])), (1, some (56, .ds [dl b m])), (2, some (56, .ds [qT]))] 3 trivial ?_
 refine kO [.no] True [(2, rV 0 0), (3, rV 1 0), (4, rV 2 0), (5, nV)] trivial ?_
 have hx1 : ((ka0 (kC a n)) = ((kP a n) * 2)) := kU (zo)
 have hx2 : (((kP a n) ≤ 64) ∧ ((kP a n) ≤ n)) := aN
 have hx3 : ((ka0 (kC b m)) = ((kP b m) * 2)) := kU (zo)
 have hx4 : (((kP b m) ≤ 64) ∧ ((kP b m) ≤ m)) := aN
 refine kK [.no, .call [] (sV .i64 (kC a n) (kP a n)) [] 0 [] none, .no, .call [] (sV .i64 (kC b m) (kP b m)) [] 0 [] none, .no, .no] ((_) ∧ (_)) [(4, rV 2 0), (5, nV), (6, sV .i64 (kC a n) (kP a n)), (7, sV .i64 (kC b m) (kP b m))] [(2, some (56, .ds [qT]))] 3 ⟨(iG a n zo zo), (iG b m zo zo)⟩ ?_
 refine AW.seq ?_
 refine AW.block ?_
 refine AW.adoptS 5 2 77 rfl ?_
 refine kY 0 hcx (fun (x : {x : Nat × Nat × Nat × List Int // match x with | (i, j, k, o) => (i ≤ kP a n ∧ j ≤ kP b m ∧ k ≤ 64) ∧ (IX (kC a n) (kC b m) i j k o) ∧ (ka0 o = k * 2)}) => match x with | ⟨(i, j, k, o), _⟩ => (⟨[(4, rV 2 0), (5, oV 4 0 k 2), (6, sV .i64 (ka3 (i * 2) (kC a n)) ((kP a n) - i)), (7, sV .i64 (ka3 (j * 2) (kC b m)) ((kP b m) - j))], [(2, some (56, .ds [qT])), (4, some (77, .ds (dI .i64 o)))], 5⟩ : ES)) (fun x => match x with | ⟨(i, j, k, o), _⟩ => (kP a n - i) + (kP b m - j)) ⟨((0 : Nat), (0 : Nat), (0 : Nat), (([] : List Int) : List Int)), ⟨uZ, (IX.zero _ _), rfl⟩⟩ [(4, 3)] (P := (kJ 0) ∧ (kJ 0) ∧ (kJ 0) ∧ (((dI .i64 (ka3 0 (kC a n))) : List D) = (dI .i64 (kC a n))) ∧ ((((kP a n) - 0) : Nat) = (kP a n)) ∧ (((dI .i64 (ka3 0 (kC b m))) : List D) = (dI .i64 (kC b m))) ∧ ((((kP b m) - 0) : Nat) = (kP b m)) ∧ (kM [qT]) ∧ (((dI .i64 ([] : List Int)) : List D) = ([] : List D))) zk ⟨rfl, rfl, rfl, (by first | rfl | with_reducible assumption | exact dp1 (kU ha) | exact dp1 (kU hb)), vV, (by first | rfl | with_reducible assumption | exact dp1 (kU ha) | exact dp1 (kU hb)), vV, rfl, (by first | rfl | with_reducible assumption | exact dp1 (kU ha) | exact dp1 (kU hb))⟩ ?_
 rintro ⟨⟨i, j, k, o⟩, hinv0⟩
 obtain ⟨hi, hX, ho⟩ : (i ≤ kP a n ∧ j ≤ kP b m ∧ k ≤ 64) ∧ (IX (kC a n) (kC b m) i j k o) ∧ (ka0 o = k * 2) := hinv0
 refine qR (l := [(4, rV 2 0), (5, oV 4 0 k 2), (6, sV .i64 (ka3 (i * 2) (kC a n)) ((kP a n) - i)), (7, sV .i64 (ka3 (j * 2) (kC b m)) ((kP b m) - j))]) (g := [(2, some (56, .ds [qT])), (4, some (77, .ds (dI .i64 o)))]) (nx := 5) rfl rfl rfl ?_
 refine AW.seq ?_
 by_cases hx5 : ((0 : Int) < ((((kP a n) - i) : Nat) : Int))
 ·by_cases hx6 : ((0 : Int) < ((((kP b m) - j) : Nat) : Int))
  ·by_cases hx7 : (((k : Nat) : Int) < 64)
   ·refine kK [.no, .no, .b true, .no, .no, .no, .b true, .no, .no, .no, .no, .b true, .no] ((((0 : Int) < ((((kP a n) - i) : Nat) : Int))) ∧ (((0 : Int) < ((((kP b m) - j) : Nat) : Int))) ∧ (((k : Int) < 64))) [(4, rV 2 0), (5, oV 4 0 k 2), (6, sV .i64 (ka3 (i * 2) (kC a n)) ((kP a n) - i)), (7, sV .i64 (ka3 (j * 2) (kC b m)) ((kP b m) - j)), (25, bV true)] [(2, some (56, .ds [qT])), (4, some (77, .ds (dI .i64 o)))] 5 ⟨zo, zo, zo⟩ ?_
    refine vB ?_
    refine AW.block ?_
    have hx8 : ka1 (ka3 (i * 2) (kC a n)) 0 0 = ka1 (kC a n) (i * 2) 0 := eG
    have hx9 : ka1 (ka3 (i * 2) (kC a n)) 1 0 = ka1 (kC a n) (i * 2 + 1) 0 := eG
    have hx10 : ka1 (ka3 (j * 2) (kC b m)) 0 0 = ka1 (kC b m) (j * 2) 0 := eG
    have hx11 : ka1 (ka3 (j * 2) (kC b m)) 1 0 = ka1 (kC b m) (j * 2 + 1) 0 := eG
    refine kK [.no, .n 0, .no, .d (D.lit (.int .i64 (ka1 (ka3 (i * 2) (kC a n)) 0 0))), .no, .n 0, .no, .d (D.lit (.int .i64 (ka1 (ka3 (j * 2) (kC b m)) 0 0))), .no, .no, .n 0, .no, .d (D.lit (.int .i64 (ka1 (ka3 (i * 2) (kC a n)) 1 0))), .no, .n 0, .no, .d (D.lit (.int .i64 (ka1 (ka3 (j * 2) (kC b m)) 1 0))), .no, .no, .no, .no] ((kN 0) ∧ ((0 : Nat) < ((kP a n) - i)) ∧ ((ka3 0 (ka3 0 (dI .i64 (ka3 (i * 2) (kC a n)))))[0]? = some (D.lit (.int .i64 (ka1 (ka3 (i * 2) (kC a n)) 0 0)))) ∧ (kN 0) ∧ ((0 : Nat) < ((kP b m) - j)) ∧ ((ka3 0 (ka3 0 (dI .i64 (ka3 (j * 2) (kC b m)))))[0]? = some (D.lit (.int .i64 (ka1 (ka3 (j * 2) (kC b m)) 0 0)))) ∧ (kN 0) ∧ ((0 : Nat) < ((kP a n) - i)) ∧ ((ka3 1 (ka3 0 (dI .i64 (ka3 (i * 2) (kC a n)))))[0]? = some (D.lit (.int .i64 (ka1 (ka3 (i * 2) (kC a n)) 1 0)))) ∧ (kN 0) ∧ ((0 : Nat) < ((kP b m) - j)) ∧ ((ka3 1 (ka3 0 (dI .i64 (ka3 (j * 2) (kC b m)))))[0]? = some (D.lit (.int .i64 (ka1 (ka3 (j * 2) (kC b m)) 1 0))))) [(4, rV 2 0), (5, oV 4 0 k 2), (6, sV .i64 (ka3 (i * 2) (kC a n)) ((kP a n) - i)), (7, sV .i64 (ka3 (j * 2) (kC b m)) ((kP b m) - j)), (8, rV 5 0)] [(2, some (56, .ds [qT])), (4, some (77, .ds (dI .i64 o))), (5, some (77, (u5m i a n j b m)))] 6 ⟨rfl, zo, b9, rfl, zo, b9, rfl, zo, b9, rfl, zo, b9⟩ ?_
    refine AW.seq ?_
    by_cases hx12 : ((max (ka1 (ka3 (i * 2) (kC a n)) 0 0) (ka1 (ka3 (j * 2) (kC b m)) 0 0)) ≤ (min (ka1 (ka3 (i * 2) (kC a n)) 1 0) (ka1 (ka3 (j * 2) (kC b m)) 1 0)))
    ·refine kO (qE 4 [.b true]) (((max (ka1 (ka3 (i * 2) (kC a n)) 0 0) (ka1 (ka3 (j * 2) (kC b m)) 0 0)) ≤ (min (ka1 (ka3 (i * 2) (kC a n)) 1 0) (ka1 (ka3 (j * 2) (kC b m)) 1 0)))) [(4, rV 2 0), (5, oV 4 0 k 2), (6, sV .i64 (ka3 (i * 2) (kC a n)) ((kP a n) - i)), (7, sV .i64 (ka3 (j * 2) (kC b m)) ((kP b m) - j)), (8, rV 5 0), (49, bV true)] zo ?_
     refine zt ?_
     refine aH [.no, .no, .no, .ap none (k + 1) (dI .i64 (o ++ ([(max (ka1 (ka3 (i * 2) (kC a n)) 0 0) (ka1 (ka3 (j * 2) (kC b m)) 0 0)), (min (ka1 (ka3 (i * 2) (kC a n)) 1 0) (ka1 (ka3 (j * 2) (kC b m)) 1 0))] : List Int))), .no] (([iD (max (ka1 (ka3 (i * 2) (kC a n)) 0 0) (ka1 (ka3 (j * 2) (kC b m)) 0 0)), iD (min (ka1 (ka3 (i * 2) (kC a n)) 1 0) (ka1 (ka3 (j * 2) (kC b m)) 1 0))].length = 1 * 2) ∧ (((dI .i64 o) : List D).length = k * 2) ∧ ((k + 1) * 16 ≤ 140737488355328) ∧ (k + 1 = (k + 1)) ∧ (((dI .i64 o) : List D) ++ [iD (max (ka1 (ka3 (i * 2) (kC a n)) 0 0) (ka1 (ka3 (j * 2) (kC b m)) 0 0)), iD (min (ka1 (ka3 (i * 2) (kC a n)) 1 0) (ka1 (ka3 (j * 2) (kC b m)) 1 0))] = (dI .i64 (o ++ ([(max (ka1 (ka3 (i * 2) (kC a n)) 0 0) (ka1 (ka3 (j * 2) (kC b m)) 0 0)), (min (ka1 (ka3 (i * 2) (kC a n)) 1 0) (ka1 (ka3 (j * 2) (kC b m)) 1 0))] : List Int))))) [(4, rV 2 0), (5, oV 7 0 (k + 1) 2), (6, sV .i64 (ka3 (i * 2) (kC a n)) ((kP a n) - i)), (7, sV .i64 (ka3 (j * 2) (kC b m)) ((kP b m) - j))] [(2, some (56, .ds [qT])), (7, some (77, .ds (dI .i64 (o ++ ([(max (ka1 (ka3 (i * 2) (kC a n)) 0 0) (ka1 (ka3 (j * 2) (kC b m)) 0 0)), (min (ka1 (ka3 (i * 2) (kC a n)) 1 0) (ka1 (ka3 (j * 2) (kC b m)) 1 0))] : List Int)))))] 8 ⟨aS, aS, zo, zo, (yN .i64 o ([(max (ka1 (ka3 (i * 2) (kC a n)) 0 0) (ka1 (ka3 (j * 2) (kC b m)) 0 0)), (min (ka1 (ka3 (i * 2) (kC a n)) 1 0) (ka1 (ka3 (j * 2) (kC b m)) 1 0))] : List Int))⟩ ?_
     by_cases hx13 : ((ka1 (ka3 (i * 2) (kC a n)) 1 0) < (ka1 (ka3 (j * 2) (kC b m)) 1 0))
     ·refine kO [.no, .n 0, .no, .d (D.lit (.int .i64 (ka1 (ka3 (i * 2) (kC a n)) 1 0))), .no, .n 0, .no, .d (D.lit (.int .i64 (ka1 (ka3 (j * 2) (kC b m)) 1 0))), .b true] ((kN 0) ∧ ((0 : Nat) < ((kP a n) - i)) ∧ ((ka3 1 (ka3 0 (dI .i64 (ka3 (i * 2) (kC a n)))))[0]? = some (D.lit (.int .i64 (ka1 (ka3 (i * 2) (kC a n)) 1 0)))) ∧ (kN 0) ∧ ((0 : Nat) < ((kP b m) - j)) ∧ ((ka3 1 (ka3 0 (dI .i64 (ka3 (j * 2) (kC b m)))))[0]? = some (D.lit (.int .i64 (ka1 (ka3 (j * 2) (kC b m)) 1 0)))) ∧ (((ka1 (ka3 (i * 2) (kC a n)) 1 0) < (ka1 (ka3 (j * 2) (kC b m)) 1 0)))) [(4, rV 2 0), (5, oV 7 0 (k + 1) 2), (6, sV .i64 (ka3 (i * 2) (kC a n)) ((kP a n) - i)), (7, sV .i64 (ka3 (j * 2) (kC b m)) ((kP b m) - j)), (62, bV true)] ⟨rfl, zo, b9, rfl, zo, b9, zo⟩ ?_
      refine zt ?_
      refine uT [.no, .sls 1 ((kP a n) - i) (((kP a n) - i) - 1) (dI .i64 (ka5 ((((kP a n) - i) - 1) * 2) (ka3 2 (ka3 (i * 2) (kC a n))))), .no] ((kN 1) ∧ (((kP a n) - i) = ((kP a n) - i)) ∧ ((1 : Nat) ≤ ((kP a n) - i)) ∧ (((kP a n) - i) ≤ ((kP a n) - i)) ∧ (((kP a n) - i) - 1 = (((kP a n) - i) - 1)) ∧ (ka5 ((((kP a n) - i) - 1) * 2) (ka3 (1 * 2) (dI .i64 (ka3 (i * 2) (kC a n)))) = (dI .i64 (ka5 ((((kP a n) - i) - 1) * 2) (ka3 2 (ka3 (i * 2) (kC a n))))))) [(4, rV 2 0), (5, oV 7 0 (k + 1) 2), (6, sV .i64 (ka5 ((((kP a n) - i) - 1) * 2) (ka3 2 (ka3 (i * 2) (kC a n)))) (((kP a n) - i) - 1)), (7, sV .i64 (ka3 (j * 2) (kC b m)) ((kP b m) - j))] ⟨rfl, rfl, zo, zo, zo, tD⟩ ?_
      exact kW ⟨(((i + 1) : Nat), (j : Nat), ((k + 1) : Nat), ((o ++ ([(max (ka1 (ka3 (i * 2) (kC a n)) 0 0) (ka1 (ka3 (j * 2) (kC b m)) 0 0)), (min (ka1 (ka3 (i * 2) (kC a n)) 1 0) (ka1 (ka3 (j * 2) (kC b m)) 1 0))] : List Int)) : List Int)), ⟨uZ, (by first | exact hX.ly (kU ha) (kU hb) (uG ha) (uG hb) zo zo zo zo zo zo | exact hX.ln (kU ha) (kU hb) (uG ha) (uG hb) zo zo zo zo | exact hX.ry (kU ha) (kU hb) (uG ha) (uG hb) zo zo zo zo zo zo | exact hX.rn (kU ha) (kU hb) (uG ha) (uG hb) zo zo zo zo), l4⟩⟩ [(4, 7)] (P := (kJ 0) ∧ (kJ 0) ∧ (kJ (k + 1)) ∧ (((dI .i64 (ka3 ((i + 1) * 2) (kC a n))) : List D) = (dI .i64 (ka5 ((((kP a n) - i) - 1) * 2) (ka3 2 (ka3 (i * 2) (kC a n)))))) ∧ ((((kP a n) - (i + 1)) : Nat) = (((kP a n) - i) - 1)) ∧ (kM (dI .i64 (ka3 (j * 2) (kC b m)))) ∧ (kJ ((kP b m) - j)) ∧ (kM [qT]) ∧ (kM (dI .i64 (o ++ ([(max (ka1 (ka3 (i * 2) (kC a n)) 0 0) (ka1 (ka3 (j * 2) (kC b m)) 0 0)), (min (ka1 (ka3 (i * 2) (kC a n)) 1 0) (ka1 (ka3 (j * 2) (kC b m)) 1 0))] : List Int))))) zk ⟨rfl, rfl, rfl, (by first | rfl | with_reducible assumption | exact dp1 (kU ha) | exact dp1 (kU hb)), vV, rfl, rfl, rfl, rfl⟩ (show (kP a n - (i + 1)) + (kP b m - j) < (kP a n - i) + (kP b m - j) from aR)
     ·refine kO [.no, .n 0, .no, .d (D.lit (.int .i64 (ka1 (ka3 (i * 2) (kC a n)) 1 0))), .no, .n 0, .no, .d (D.lit (.int .i64 (ka1 (ka3 (j * 2) (kC b m)) 1 0))), .b false] ((kN 0) ∧ ((0 : Nat) < ((kP a n) - i)) ∧ ((ka3 1 (ka3 0 (dI .i64 (ka3 (i * 2) (kC a n)))))[0]? = some (D.lit (.int .i64 (ka1 (ka3 (i * 2) (kC a n)) 1 0)))) ∧ (kN 0) ∧ ((0 : Nat) < ((kP b m) - j)) ∧ ((ka3 1 (ka3 0 (dI .i64 (ka3 (j * 2) (kC b m)))))[0]? = some (D.lit (.int .i64 (ka1 (ka3 (j * 2) (kC b m)) 1 0)))) ∧ (¬ ((ka1 (ka3 (i * 2) (kC a n)) 1 0) < (ka1 (ka3 (j * 2) (kC b m)) 1 0)))) [(4, rV 2 0), (5, oV 7 0 (k + 1) 2), (6, sV .i64 (ka3 (i * 2) (kC a n)) ((kP a n) - i)), (7, sV .i64 (ka3 (j * 2) (kC b m)) ((kP b m) - j)), (62, bV false)] ⟨rfl, zo, b9, rfl, zo, b9, zo⟩ ?_
      refine zf ?_
      refine uT [.no, .sls 1 ((kP b m) - j) (((kP b m) - j) - 1) (dI .i64 (ka5 ((((kP b m) - j) - 1) * 2) (ka3 2 (ka3 (j * 2) (kC b m))))), .no] ((kN 1) ∧ (((kP b m) - j) = ((kP b m) - j)) ∧ ((1 : Nat) ≤ ((kP b m) - j)) ∧ (((kP b m) - j) ≤ ((kP b m) - j)) ∧ (((kP b m) - j) - 1 = (((kP b m) - j) - 1)) ∧ (ka5 ((((kP b m) - j) - 1) * 2) (ka3 (1 * 2) (dI .i64 (ka3 (j * 2) (kC b m)))) = (dI .i64 (ka5 ((((kP b m) - j) - 1) * 2) (ka3 2 (ka3 (j * 2) (kC b m))))))) [(4, rV 2 0), (5, oV 7 0 (k + 1) 2), (6, sV .i64 (ka3 (i * 2) (kC a n)) ((kP a n) - i)), (7, sV .i64 (ka5 ((((kP b m) - j) - 1) * 2) (ka3 2 (ka3 (j * 2) (kC b m)))) (((kP b m) - j) - 1))] ⟨rfl, rfl, zo, zo, zo, tD⟩ ?_
      exact kW ⟨((i : Nat), ((j + 1) : Nat), ((k + 1) : Nat), ((o ++ ([(max (ka1 (ka3 (i * 2) (kC a n)) 0 0) (ka1 (ka3 (j * 2) (kC b m)) 0 0)), (min (ka1 (ka3 (i * 2) (kC a n)) 1 0) (ka1 (ka3 (j * 2) (kC b m)) 1 0))] : List Int)) : List Int)), ⟨uZ, (by first | exact hX.ly (kU ha) (kU hb) (uG ha) (uG hb) zo zo zo zo zo zo | exact hX.ln (kU ha) (kU hb) (uG ha) (uG hb) zo zo zo zo | exact hX.ry (kU ha) (kU hb) (uG ha) (uG hb) zo zo zo zo zo zo | exact hX.rn (kU ha) (kU hb) (uG ha) (uG hb) zo zo zo zo), l4⟩⟩ [(4, 7)] (P := (kJ 0) ∧ (kJ 0) ∧ (kJ (k + 1)) ∧ (kM (dI .i64 (ka3 (i * 2) (kC a n)))) ∧ (kJ ((kP a n) - i)) ∧ (((dI .i64 (ka3 ((j + 1) * 2) (kC b m))) : List D) = (dI .i64 (ka5 ((((kP b m) - j) - 1) * 2) (ka3 2 (ka3 (j * 2) (kC b m)))))) ∧ ((((kP b m) - (j + 1)) : Nat) = (((kP b m) - j) - 1)) ∧ (kM [qT]) ∧ (kM (dI .i64 (o ++ ([(max (ka1 (ka3 (i * 2) (kC a n)) 0 0) (ka1 (ka3 (j * 2) (kC b m)) 0 0)), (min (ka1 (ka3 (i * 2) (kC a n)) 1 0) (ka1 (ka3 (j * 2) (kC b m)) 1 0))] : List Int))))) zk ⟨rfl, rfl, rfl, rfl, rfl, (by first | rfl | with_reducible assumption | exact dp1 (kU ha) | exact dp1 (kU hb)), vV, rfl, rfl⟩ (show (kP a n - i) + (kP b m - (j + 1)) < (kP a n - i) + (kP b m - j) from aR)
    ·refine kO (qE 4 [.b false]) (¬ ((max (ka1 (ka3 (i * 2) (kC a n)) 0 0) (ka1 (ka3 (j * 2) (kC b m)) 0 0)) ≤ (min (ka1 (ka3 (i * 2) (kC a n)) 1 0) (ka1 (ka3 (j * 2) (kC b m)) 1 0)))) [(4, rV 2 0), (5, oV 4 0 k 2), (6, sV .i64 (ka3 (i * 2) (kC a n)) ((kP a n) - i)), (7, sV .i64 (ka3 (j * 2) (kC b m)) ((kP b m) - j)), (8, rV 5 0), (49, bV false)] zo ?_
     refine q8 ?_
     by_cases hx14 : ((ka1 (ka3 (i * 2) (kC a n)) 1 0) < (ka1 (ka3 (j * 2) (kC b m)) 1 0))
     ·refine kK [.no, .n 0, .no, .d (D.lit (.int .i64 (ka1 (ka3 (i * 2) (kC a n)) 1 0))), .no, .n 0, .no, .d (D.lit (.int .i64 (ka1 (ka3 (j * 2) (kC b m)) 1 0))), .b true] ((kN 0) ∧ ((0 : Nat) < ((kP a n) - i)) ∧ ((ka3 1 (ka3 0 (dI .i64 (ka3 (i * 2) (kC a n)))))[0]? = some (D.lit (.int .i64 (ka1 (ka3 (i * 2) (kC a n)) 1 0)))) ∧ (kN 0) ∧ ((0 : Nat) < ((kP b m) - j)) ∧ ((ka3 1 (ka3 0 (dI .i64 (ka3 (j * 2) (kC b m)))))[0]? = some (D.lit (.int .i64 (ka1 (ka3 (j * 2) (kC b m)) 1 0)))) ∧ (((ka1 (ka3 (i * 2) (kC a n)) 1 0) < (ka1 (ka3 (j * 2) (kC b m)) 1 0)))) [(4, rV 2 0), (5, oV 4 0 k 2), (6, sV .i64 (ka3 (i * 2) (kC a n)) ((kP a n) - i)), (7, sV .i64 (ka3 (j * 2) (kC b m)) ((kP b m) - j)), (62, bV true)] [(2, some (56, .ds [qT])), (4, some (77, .ds (dI .i64 o)))] 6 ⟨rfl, zo, b9, rfl, zo, b9, zo⟩ ?_
      refine zt ?_
      refine uT [.no, .sls 1 ((kP a n) - i) (((kP a n) - i) - 1) (dI .i64 (ka5 ((((kP a n) - i) - 1) * 2) (ka3 2 (ka3 (i * 2) (kC a n))))), .no] ((kN 1) ∧ (((kP a n) - i) = ((kP a n) - i)) ∧ ((1 : Nat) ≤ ((kP a n) - i)) ∧ (((kP a n) - i) ≤ ((kP a n) - i)) ∧ (((kP a n) - i) - 1 = (((kP a n) - i) - 1)) ∧ (ka5 ((((kP a n) - i) - 1) * 2) (ka3 (1 * 2) (dI .i64 (ka3 (i * 2) (kC a n)))) = (dI .i64 (ka5 ((((kP a n) - i) - 1) * 2) (ka3 2 (ka3 (i * 2) (kC a n))))))) [(4, rV 2 0), (5, oV 4 0 k 2), (6, sV .i64 (ka5 ((((kP a n) - i) - 1) * 2) (ka3 2 (ka3 (i * 2) (kC a n)))) (((kP a n) - i) - 1)), (7, sV .i64 (ka3 (j * 2) (kC b m)) ((kP b m) - j))] ⟨rfl, rfl, zo, zo, zo, tD⟩ ?_
      exact kW ⟨(((i + 1) : Nat), (j : Nat), (k : Nat), (o : List Int)), ⟨uZ, (by first | exact hX.ly (kU ha) (kU hb) (uG ha) (uG hb) zo zo zo zo zo zo | exact hX.ln (kU ha) (kU hb) (uG ha) (uG hb) zo zo zo zo | exact hX.ry (kU ha) (kU hb) (uG ha) (uG hb) zo zo zo zo zo zo | exact hX.rn (kU ha) (kU hb) (uG ha) (uG hb) zo zo zo zo), l4⟩⟩ [] (P := (kJ 0) ∧ (kJ 0) ∧ (kJ k) ∧ (((dI .i64 (ka3 ((i + 1) * 2) (kC a n))) : List D) = (dI .i64 (ka5 ((((kP a n) - i) - 1) * 2) (ka3 2 (ka3 (i * 2) (kC a n)))))) ∧ ((((kP a n) - (i + 1)) : Nat) = (((kP a n) - i) - 1)) ∧ (kM (dI .i64 (ka3 (j * 2) (kC b m)))) ∧ (kJ ((kP b m) - j)) ∧ (kM [qT]) ∧ (kM (dI .i64 o))) zk ⟨rfl, rfl, rfl, (by first | rfl | with_reducible assumption | exact dp1 (kU ha) | exact dp1 (kU hb)), vV, rfl, rfl, rfl, rfl⟩ (show (kP a n - (i + 1)) + (kP b m - j) < (kP a n - i) + (kP b m - j) from aR)
     ·refine kK [.no, .n 0, .no, .d (D.lit (.int .i64 (ka1 (ka3 (i * 2) (kC a n)) 1 0))), .no, .n 0, .no, .d (D.lit (.int .i64 (ka1 (ka3 (j * 2) (kC b m)) 1 0))), .b false] ((kN 0) ∧ ((0 : Nat) < ((kP a n) - i)) ∧ ((ka3 1 (ka3 0 (dI .i64 (ka3 (i * 2) (kC a n)))))[0]? = some (D.lit (.int .i64 (ka1 (ka3 (i * 2) (kC a n)) 1 0)))) ∧ (kN 0) ∧ ((0 : Nat) < ((kP b m) - j)) ∧ ((ka3 1 (ka3 0 (dI .i64 (ka3 (j * 2) (kC b m)))))[0]? = some (D.lit (.int .i64 (ka1 (ka3 (j * 2) (kC b m)) 1 0)))) ∧ (¬ ((ka1 (ka3 (i * 2) (kC a n)) 1 0) < (ka1 (ka3 (j * 2) (kC b m)) 1 0)))) [(4, rV 2 0), (5, oV 4 0 k 2), (6, sV .i64 (ka3 (i * 2) (kC a n)) ((kP a n) - i)), (7, sV .i64 (ka3 (j * 2) (kC b m)) ((kP b m) - j)), (62, bV false)] [(2, some (56, .ds [qT])), (4, some (77, .ds (dI .i64 o)))] 6 ⟨rfl, zo, b9, rfl, zo, b9, zo⟩ ?_
      refine zf ?_
      refine uT [.no, .sls 1 ((kP b m) - j) (((kP b m) - j) - 1) (dI .i64 (ka5 ((((kP b m) - j) - 1) * 2) (ka3 2 (ka3 (j * 2) (kC b m))))), .no] ((kN 1) ∧ (((kP b m) - j) = ((kP b m) - j)) ∧ ((1 : Nat) ≤ ((kP b m) - j)) ∧ (((kP b m) - j) ≤ ((kP b m) - j)) ∧ (((kP b m) - j) - 1 = (((kP b m) - j) - 1)) ∧ (ka5 ((((kP b m) - j) - 1) * 2) (ka3 (1 * 2) (dI .i64 (ka3 (j * 2) (kC b m)))) = (dI .i64 (ka5 ((((kP b m) - j) - 1) * 2) (ka3 2 (ka3 (j * 2) (kC b m))))))) [(4, rV 2 0), (5, oV 4 0 k 2), (6, sV .i64 (ka3 (i * 2) (kC a n)) ((kP a n) - i)), (7, sV .i64 (ka5 ((((kP b m) - j) - 1) * 2) (ka3 2 (ka3 (j * 2) (kC b m)))) (((kP b m) - j) - 1))] ⟨rfl, rfl, zo, zo, zo, tD⟩ ?_
      exact kW ⟨((i : Nat), ((j + 1) : Nat), (k : Nat), (o : List Int)), ⟨uZ, (by first | exact hX.ly (kU ha) (kU hb) (uG ha) (uG hb) zo zo zo zo zo zo | exact hX.ln (kU ha) (kU hb) (uG ha) (uG hb) zo zo zo zo | exact hX.ry (kU ha) (kU hb) (uG ha) (uG hb) zo zo zo zo zo zo | exact hX.rn (kU ha) (kU hb) (uG ha) (uG hb) zo zo zo zo), l4⟩⟩ [] (P := (kJ 0) ∧ (kJ 0) ∧ (kJ k) ∧ (kM (dI .i64 (ka3 (i * 2) (kC a n)))) ∧ (kJ ((kP a n) - i)) ∧ (((dI .i64 (ka3 ((j + 1) * 2) (kC b m))) : List D) = (dI .i64 (ka5 ((((kP b m) - j) - 1) * 2) (ka3 2 (ka3 (j * 2) (kC b m)))))) ∧ ((((kP b m) - (j + 1)) : Nat) = (((kP b m) - j) - 1)) ∧ (kM [qT]) ∧ (kM (dI .i64 o))) zk ⟨rfl, rfl, rfl, rfl, rfl, (by first | rfl | with_reducible assumption | exact dp1 (kU ha) | exact dp1 (kU hb)), vV, rfl, rfl⟩ (show (kP a n - i) + (kP b m - (j + 1)) < (kP a n - i) + (kP b m - j) from aR)
   ·refine kK [.no, .no, .b true, .no, .no, .no, .b true, .no, .no, .no, .no, .b false, .no] ((((0 : Int) < ((((kP a n) - i) : Nat) : Int))) ∧ (((0 : Int) < ((((kP b m) - j) : Nat) : Int))) ∧ (¬ ((k : Int) < 64))) [(4, rV 2 0), (5, oV 4 0 k 2), (6, sV .i64 (ka3 (i * 2) (kC a n)) ((kP a n) - i)), (7, sV .i64 (ka3 (j * 2) (kC b m)) ((kP b m) - j)), (25, bV false)] [(2, some (56, .ds [qT])), (4, some (77, .ds (dI .i64 o)))] 5 ⟨zo, zo, zo⟩ ?_
    refine zf ?_
    refine AW.exit ?_
    refine kK [.no, .no, .no] True [(4, rV 2 0)] [(2, some (56, .cs [.own 4 0 k 2 true])), (4, some (77, .ds (dI .i64 o)))] 5 trivial ?_
    obtain ⟨hz1, hz2⟩ := hX.fin (kU ha) (kU hb) zo zo
    refine AW.freeze 4 (l' := [(4, rV 2 0)]) (g' := [(2, some (56, .ds [dl o k]))]) rfl (FzS.cons rfl (.same _) FzS.nil) (FzG.to (bc := .cs [.own 4 0 k 2 true]) rfl (by rfl) (FzL.cons (@FzC.own 4 ((dI .i64 o) : List D) 0 k 2 true ((dI .i64 o) : List D) tE aS) FzL.nil) FzG.nil) ?_
    refine AW.ret ?_
    exact kA (.inr rfl) [] (P := (((dI .i64 (uM (kC a n) (kC b m))) : List D) = (dI .i64 o)) ∧ (((qM (kC a n) (kC b m)) : Nat) = k)) zk ⟨(by first | exact congrArg _ hz1.symm | rfl), l3⟩
  ·refine kK [.no, .no, .b true, .no, .no, .no, .b false, .no, .no, .no] ((((0 : Int) < ((((kP a n) - i) : Nat) : Int))) ∧ (¬ ((0 : Int) < ((((kP b m) - j) : Nat) : Int)))) [(4, rV 2 0), (5, oV 4 0 k 2), (6, sV .i64 (ka3 (i * 2) (kC a n)) ((kP a n) - i)), (7, sV .i64 (ka3 (j * 2) (kC b m)) ((kP b m) - j)), (25, bV false)] [(2, some (56, .ds [qT])), (4, some (77, .ds (dI .i64 o)))] 5 ⟨zo, zo⟩ ?_
   refine zf ?_
   refine AW.exit ?_
   refine kK [.no, .no, .no] True [(4, rV 2 0)] [(2, some (56, .cs [.own 4 0 k 2 true])), (4, some (77, .ds (dI .i64 o)))] 5 trivial ?_
   obtain ⟨hz1, hz2⟩ := hX.fin (kU ha) (kU hb) zo zo
   refine AW.freeze 4 (l' := [(4, rV 2 0)]) (g' := [(2, some (56, .ds [dl o k]))]) rfl (FzS.cons rfl (.same _) FzS.nil) (FzG.to (bc := .cs [.own 4 0 k 2 true]) rfl (by rfl) (FzL.cons (@FzC.own 4 ((dI .i64 o) : List D) 0 k 2 true ((dI .i64 o) : List D) tE aS) FzL.nil) FzG.nil) ?_
   refine AW.ret ?_
   exact kA (.inr rfl) [] (P := (((dI .i64 (uM (kC a n) (kC b m))) : List D) = (dI .i64 o)) ∧ (((qM (kC a n) (kC b m)) : Nat) = k)) zk ⟨(by first | exact congrArg _ hz1.symm | rfl), l3⟩
 ·refine kK (.no :: .no :: .b false :: qE 4 []) (¬ ((0 : Int) < ((((kP a n) - i) : Nat) : Int))) [(4, rV 2 0), (5, oV 4 0 k 2), (6, sV .i64 (ka3 (i * 2) (kC a n)) ((kP a n) - i)), (7, sV .i64 (ka3 (j * 2) (kC b m)) ((kP b m) - j)), (25, bV false)] [(2, some (56, .ds [qT])), (4, some (77, .ds (dI .i64 o)))] 5 zo ?_
  refine zf ?_
  refine AW.exit ?_
  refine kK [.no, .no, .no] True [(4, rV 2 0)] [(2, some (56, .cs [.own 4 0 k 2 true])), (4, some (77, .ds (dI .i64 o)))] 5 trivial ?_
  obtain ⟨hz1, hz2⟩ := hX.fin (kU ha) (kU hb) zo zo
  refine AW.freeze 4 (l' := [(4, rV 2 0)]) (g' := [(2, some (56, .ds [dl o k]))]) rfl (FzS.cons rfl (.same _) FzS.nil) (FzG.to (bc := .cs [.own 4 0 k 2 true]) rfl (by rfl) (FzL.cons (@FzC.own 4 ((dI .i64 o) : List D) 0 k 2 true ((dI .i64 o) : List D) tE aS) FzL.nil) FzG.nil) ?_
  refine AW.ret ?_
  exact kA (.inr rfl) [] (P := (((dI .i64 (uM (kC a n) (kC b m))) : List D) = (dI .i64 o)) ∧ (((qM (kC a n) (kC b m)) : Nat) = k)) zk ⟨(by first | exact congrArg _ hz1.symm | rfl), l3⟩
abbrev fX (a : List Int) (n : Nat) (i : Nat) : BC := .ds [iD (ka1 (kC a n) (i * 2) 0), iD (ka1 (kC a n) ((i * 2) + 1) 0)]
theorem u55 (a b : List Int) (n m : Nat) (ha : ka0 a = n * 2) (hb : ka0 b = m * 2) (h3 : n ≤ 9223372036854775807) (h4 : m ≤ 9223372036854775807) : Fun 132 [.agg [.d (D.sl (dI .i64 a) n)], .agg [.d (D.sl (dI .i64 b) m)]] (kH []) 0 (sV .i64 (jR (kC a n) (kC b m)) (aW (kC a n) (kC b m))) (kH []) 0 := by
 refine Fun.mk (n := 48) Tryz.func132 rfl rfl (ka4 rfl) ?_
 intro cx hcx
 refine kK [.no, .no, .no] True [(2, rV 0 0), (3, rV 1 0)] [(0, some (56, .ds [dl a n])), (1, some (56, .ds [dl b m]))] 2 trivial ?_
 refine kO [.no] True [(2, rV 0 0), (3, rV 1 0), (5, nV)] trivial ?_
 refine AW.seq ?_
 have hx1 : ((ka0 (kC a n)) = ((kP a n) * 2)) := kU (zo)
 have hx2 : (((kP a n) ≤ 64) ∧ ((kP a n) ≤ n)) := aN
 refine kK [.no, .call [] (sV .i64 (kC a n) (kP a n)) [] 0 [] none, .no, .no] _ [(3, rV 1 0), (5, nV), (13, sV .i64 (kC a n) (kP a n)), (14, uV (kP a n)), (15, iV 0)] [(1, some (56, .ds [dl b m]))] 2 (pV a n zo zo) ?_
 refine AW.block ?_
 refine AW.adoptS 5 2 77 rfl ?_
 refine kY 0 hcx (fun (x : {x : Nat × Nat × List Int // match x with | (i, k, o) => (i ≤ kP a n ∧ k ≤ i * 64) ∧ (AL (kC a n) (kC b m) i k o) ∧ (ka0 o = k * 2)}) => match x with | ⟨(i, k, o), _⟩ => (⟨[(3, rV 1 0), (5, oV 3 0 k 2), (13, sV .i64 (kC a n) (kP a n)), (14, uV (kP a n)), (15, uV i)], [(1, some (56, .ds [dl b m])), (3, some (77, .ds (dI .i64 o)))], 4⟩ : ES)) (fun x => match x with | ⟨(i, k, o), _⟩ => kP a n - i) ⟨((0 : Nat), (0 : Nat), (([] : List Int) : List Int)), ⟨uZ, (AL.zero _ _), rfl⟩⟩ [(3, 2)] (P := (kJ 0) ∧ (kJ 0) ∧ (kJ 0) ∧ (kM (dI .i64 (kC a n))) ∧ (kJ (kP a n)) ∧ (kN (kP a n : Int)) ∧ (kN 0) ∧ (kM [dl b m]) ∧ (((dI .i64 ([] : List Int)) : List D) = ([] : List D))) zk ⟨rfl, rfl, rfl, rfl, rfl, rfl, rfl, rfl, (by first | rfl | with_reducible assumption)⟩ ?_
 rintro ⟨⟨i, k, o⟩, hinv0⟩
 obtain ⟨hi, hA, ho⟩ : (i ≤ kP a n ∧ k ≤ i * 64) ∧ (AL (kC a n) (kC b m) i k o) ∧ (ka0 o = k * 2) := hinv0
 refine qR (l := [(3, rV 1 0), (5, oV 3 0 k 2), (13, sV .i64 (kC a n) (kP a n)), (14, uV (kP a n)), (15, uV i)]) (g := [(1, some (56, .ds [dl b m])), (3, some (77, .ds (dI .i64 o)))]) (nx := 4) rfl rfl rfl ?_
 by_cases hx3 : (((i : Nat) : Int) < (((kP a n) : Nat) : Int))
 ·refine kK [.b true] (((i : Int) < (kP a n : Int))) [(3, rV 1 0), (5, oV 3 0 k 2), (13, sV .i64 (kC a n) (kP a n)), (14, uV (kP a n)), (15, uV i), (16, bV true)] [(1, some (56, .ds [dl b m])), (3, some (77, .ds (dI .i64 o)))] 4 zo ?_
  refine AW.seq ?_
  refine vB ?_
  refine AW.seq ?_
  refine AW.block ?_
  refine kK [.n i, .ds [iD (ka1 (kC a n) (i * 2) 0), iD (ka1 (kC a n) ((i * 2) + 1) 0)], .no, .no] ((kN (i : Int)) ∧ (i < (kP a n)) ∧ (ka5 2 (ka3 (i * 2) (dI .i64 (kC a n))) = [iD (ka1 (kC a n) (i * 2) 0), iD (ka1 (kC a n) ((i * 2) + 1) 0)]) ∧ (([iD (ka1 (kC a n) (i * 2) 0), iD (ka1 (kC a n) ((i * 2) + 1) 0)] : List D).length = 2)) [(3, rV 1 0), (5, oV 3 0 k 2), (7, rV 4 0), (13, sV .i64 (kC a n) (kP a n)), (14, uV (kP a n)), (15, uV i)] [(1, some (56, .ds [dl b m])), (3, some (77, .ds (dI .i64 o))), (4, some (77, (fX a n i)))] 5 ⟨rfl, zo, (aM .i64 (kC a n) (i * 2) 2 aS), rfl⟩ ?_
  have hx4 : ((ka0 (kC b m)) = ((kP b m) * 2)) := kU (zo)
  have hx5 : (((kP b m) ≤ 64) ∧ ((kP b m) ≤ m)) := aN
  refine kO [.no, .call [] (sV .i64 (kC b m) (kP b m)) [] 0 [] none, .no, .no] _ [(3, rV 1 0), (5, oV 3 0 k 2), (7, rV 4 0), (13, sV .i64 (kC a n) (kP a n)), (14, uV (kP a n)), (15, uV i), (20, sV .i64 (kC b m) (kP b m)), (21, uV (kP b m)), (22, iV 0)] (pV b m zo zo) ?_
  refine AW.block ?_
  refine kY 0 hcx (fun (x : {x : Nat × Nat × List Int // match x with | (j, k2, q) => (j ≤ kP b m ∧ k2 ≤ i * 64 + j) ∧ (AJ (kC a n) (kC b m) i j k2 q) ∧ (ka0 q = k2 * 2)}) => match x with | ⟨(j, k2, q), _⟩ => (⟨[(3, rV 1 0), (5, oV 5 0 k2 2), (7, rV 4 0), (13, sV .i64 (kC a n) (kP a n)), (14, uV (kP a n)), (15, uV i), (20, sV .i64 (kC b m) (kP b m)), (21, uV (kP b m)), (22, uV j)], [(1, some (56, .ds [dl b m])), (5, some (77, .ds (dI .i64 q))), (4, some (77, (fX a n i)))], 6⟩ : ES)) (fun x => match x with | ⟨(j, k2, q), _⟩ => kP b m - j) ⟨((0 : Nat), (k : Nat), (o : List Int)), ⟨uZ, hA.in, zo⟩⟩ [(5, 3)] (P := (kJ 0) ∧ (kJ 0) ∧ (kJ k) ∧ (kJ 0) ∧ (kM (dI .i64 (kC a n))) ∧ (kJ (kP a n)) ∧ (kN (kP a n : Int)) ∧ (kN (i : Int)) ∧ (kM (dI .i64 (kC b m))) ∧ (kJ (kP b m)) ∧ (kN (kP b m : Int)) ∧ (kN 0) ∧ (kM [dl b m]) ∧ (kM (dI .i64 o)) ∧ (kM [iD (ka1 (kC a n) (i * 2) 0), iD (ka1 (kC a n) ((i * 2) + 1) 0)])) zk ⟨rfl, rfl, rfl, rfl, rfl, rfl, rfl, rfl, rfl, rfl, rfl, rfl, rfl, rfl, rfl⟩ ?_
  rintro ⟨⟨j, k2, q⟩, hinv1⟩
  obtain ⟨hj, hJ, hq⟩ : (j ≤ kP b m ∧ k2 ≤ i * 64 + j) ∧ (AJ (kC a n) (kC b m) i j k2 q) ∧ (ka0 q = k2 * 2) := hinv1
  refine qR (l := [(3, rV 1 0), (5, oV 5 0 k2 2), (7, rV 4 0), (13, sV .i64 (kC a n) (kP a n)), (14, uV (kP a n)), (15, uV i), (20, sV .i64 (kC b m) (kP b m)), (21, uV (kP b m)), (22, uV j)]) (g := [(1, some (56, .ds [dl b m])), (5, some (77, .ds (dI .i64 q))), (4, some (77, (fX a n i)))]) (nx := 6) rfl rfl rfl ?_
  by_cases hx6 : (((j : Nat) : Int) < (((kP b m) : Nat) : Int))
  ·refine kK [.b true] (((j : Int) < (kP b m : Int))) [(3, rV 1 0), (5, oV 5 0 k2 2), (7, rV 4 0), (13, sV .i64 (kC a n) (kP a n)), (14, uV (kP a n)), (15, uV i), (20, sV .i64 (kC b m) (kP b m)), (21, uV (kP b m)), (22, uV j), (23, bV true)] [(1, some (56, .ds [dl b m])), (4, some (77, (fX a n i))), (5, some (77, .ds (dI .i64 q)))] 6 zo ?_
   refine AW.seq ?_
   refine vB ?_
   refine AW.seq ?_
   refine AW.block ?_
   refine kK [.n j, .ds [iD (ka1 (kC b m) (j * 2) 0), iD (ka1 (kC b m) ((j * 2) + 1) 0)], .no, .no] ((kN (j : Int)) ∧ (j < (kP b m)) ∧ (ka5 2 (ka3 (j * 2) (dI .i64 (kC b m))) = [iD (ka1 (kC b m) (j * 2) 0), iD (ka1 (kC b m) ((j * 2) + 1) 0)]) ∧ (([iD (ka1 (kC b m) (j * 2) 0), iD (ka1 (kC b m) ((j * 2) + 1) 0)] : List D).length = 2)) [(3, rV 1 0), (5, oV 5 0 k2 2), (7, rV 4 0), (9, rV 6 0), (13, sV .i64 (kC a n) (kP a n)), (14, uV (kP a n)), (15, uV i), (20, sV .i64 (kC b m) (kP b m)), (21, uV (kP b m)), (22, uV j)] [(1, some (56, .ds [dl b m])), (4, some (77, (fX a n i))), (5, some (77, .ds (dI .i64 q))), (6, some (77, .ds [iD (ka1 (kC b m) (j * 2) 0), iD (ka1 (kC b m) ((j * 2) + 1) 0)]))] 7 ⟨rfl, zo, (aM .i64 (kC b m) (j * 2) 2 aS), rfl⟩ ?_
   refine kK (qE 12 []) True [(3, rV 1 0), (5, oV 5 0 k2 2), (7, rV 4 0), (10, iV (max (ka1 (kC a n) (i * 2) 0) (ka1 (kC b m) (j * 2) 0))), (11, iV (min (ka1 (kC a n) ((i * 2) + 1) 0) (ka1 (kC b m) ((j * 2) + 1) 0))), (13, sV .i64 (kC a n) (kP a n)), (14, uV (kP a n)), (15, uV i), (20, sV .i64 (kC b m) (kP b m)), (21, uV (kP b m)), (22, uV j)] [(1, some (56, .ds [dl b m])), (4, some (77, (fX a n i))), (5, some (77, .ds (dI .i64 q)))] 7 trivial ?_
   by_cases hx7 : ((max (ka1 (kC a n) (i * 2) 0) (ka1 (kC b m) (j * 2) 0)) ≤ (min (ka1 (kC a n) ((i * 2) + 1) 0) (ka1 (kC b m) ((j * 2) + 1) 0)))
   ·refine kO [.no, .no, .b true] (((max (ka1 (kC a n) (i * 2) 0) (ka1 (kC b m) (j * 2) 0)) ≤ (min (ka1 (kC a n) ((i * 2) + 1) 0) (ka1 (kC b m) ((j * 2) + 1) 0)))) [(3, rV 1 0), (5, oV 5 0 k2 2), (7, rV 4 0), (10, iV (max (ka1 (kC a n) (i * 2) 0) (ka1 (kC b m) (j * 2) 0))), (11, iV (min (ka1 (kC a n) ((i * 2) + 1) 0) (ka1 (kC b m) ((j * 2) + 1) 0))), (13, sV .i64 (kC a n) (kP a n)), (14, uV (kP a n)), (15, uV i), (20, sV .i64 (kC b m) (kP b m)), (21, uV (kP b m)), (22, uV j), (38, bV true)] zo ?_
    refine zt ?_
    refine aH (qE 5 [.ap none (k2 + 1) (dI .i64 (q ++ ([(max (ka1 (kC a n) (i * 2) 0) (ka1 (kC b m) (j * 2) 0)), (min (ka1 (kC a n) ((i * 2) + 1) 0) (ka1 (kC b m) ((j * 2) + 1) 0))] : List Int))), .no]) (([iD (max (ka1 (kC a n) (i * 2) 0) (ka1 (kC b m) (j * 2) 0)), iD (min (ka1 (kC a n) ((i * 2) + 1) 0) (ka1 (kC b m) ((j * 2) + 1) 0))].length = 1 * 2) ∧ (((dI .i64 q) : List D).length = k2 * 2) ∧ ((k2 + 1) * 16 ≤ 140737488355328) ∧ (k2 + 1 = (k2 + 1)) ∧ (((dI .i64 q) : List D) ++ [iD (max (ka1 (kC a n) (i * 2) 0) (ka1 (kC b m) (j * 2) 0)), iD (min (ka1 (kC a n) ((i * 2) + 1) 0) (ka1 (kC b m) ((j * 2) + 1) 0))] = (dI .i64 (q ++ ([(max (ka1 (kC a n) (i * 2) 0) (ka1 (kC b m) (j * 2) 0)), (min (ka1 (kC a n) ((i * 2) + 1) 0) (ka1 (kC b m) ((j * 2) + 1) 0))] : List Int))))) [(3, rV 1 0), (5, oV 8 0 (k2 + 1) 2), (7, rV 4 0), (13, sV .i64 (kC a n) (kP a n)), (14, uV (kP a n)), (15, uV i), (20, sV .i64 (kC b m) (kP b m)), (21, uV (kP b m)), (22, uV j)] [(1, some (56, .ds [dl b m])), (4, some (77, (fX a n i))), (8, some (77, .ds (dI .i64 (q ++ ([(max (ka1 (kC a n) (i * 2) 0) (ka1 (kC b m) (j * 2) 0)), (min (ka1 (kC a n) ((i * 2) + 1) 0) (ka1 (kC b m) ((j * 2) + 1) 0))] : List Int)))))] 9 ⟨aS, aS, zo, zo, (yN .i64 q ([(max (ka1 (kC a n) (i * 2) 0) (ka1 (kC b m) (j * 2) 0)), (min (ka1 (kC a n) ((i * 2) + 1) 0) (ka1 (kC b m) ((j * 2) + 1) 0))] : List Int))⟩ ?_
    refine uT [.w, .no] ((-9223372036854775808) ≤ ((j : Int) + 1) ∧ ((j : Int) + 1) ≤ 9223372036854775807) [(3, rV 1 0), (5, oV 8 0 (k2 + 1) 2), (7, rV 4 0), (13, sV .i64 (kC a n) (kP a n)), (14, uV (kP a n)), (15, uV i), (20, sV .i64 (kC b m) (kP b m)), (21, uV (kP b m)), (22, iV (↑j + 1))] ⟨by omega, by omega⟩ ?_
    exact kW ⟨(((j + 1) : Nat), ((k2 + 1) : Nat), ((q ++ ([(max (ka1 (kC a n) (i * 2) 0) (ka1 (kC b m) (j * 2) 0)), (min (ka1 (kC a n) ((i * 2) + 1) 0) (ka1 (kC b m) ((j * 2) + 1) 0))] : List Int)) : List Int)), ⟨uZ, (by first | exact hJ.y (kU hb) zo zo zo zo rfl | exact hJ.n (kU hb) zo zo), l4⟩⟩ [(5, 8)] (P := (kJ 0) ∧ (kJ 0) ∧ (kJ (k2 + 1)) ∧ (kJ 0) ∧ (kM (dI .i64 (kC a n))) ∧ (kJ (kP a n)) ∧ (kN (kP a n : Int)) ∧ (kN (i : Int)) ∧ (kM (dI .i64 (kC b m))) ∧ (kJ (kP b m)) ∧ (kN (kP b m : Int)) ∧ (((((j + 1) : Nat) : Int) : Int) = ((j : Int) + 1)) ∧ (kM [dl b m]) ∧ (kM (dI .i64 (q ++ ([(max (ka1 (kC a n) (i * 2) 0) (ka1 (kC b m) (j * 2) 0)), (min (ka1 (kC a n) ((i * 2) + 1) 0) (ka1 (kC b m) ((j * 2) + 1) 0))] : List Int)))) ∧ (kM [iD (ka1 (kC a n) (i * 2) 0), iD (ka1 (kC a n) ((i * 2) + 1) 0)])) zk ⟨rfl, rfl, rfl, rfl, rfl, rfl, rfl, rfl, rfl, rfl, rfl, vV, rfl, rfl, rfl⟩ (show kP b m - (j + 1) < kP b m - j from aR)
   ·refine kO [.no, .no, .b false] (¬ ((max (ka1 (kC a n) (i * 2) 0) (ka1 (kC b m) (j * 2) 0)) ≤ (min (ka1 (kC a n) ((i * 2) + 1) 0) (ka1 (kC b m) ((j * 2) + 1) 0)))) [(3, rV 1 0), (5, oV 5 0 k2 2), (7, rV 4 0), (10, iV (max (ka1 (kC a n) (i * 2) 0) (ka1 (kC b m) (j * 2) 0))), (11, iV (min (ka1 (kC a n) ((i * 2) + 1) 0) (ka1 (kC b m) ((j * 2) + 1) 0))), (13, sV .i64 (kC a n) (kP a n)), (14, uV (kP a n)), (15, uV i), (20, sV .i64 (kC b m) (kP b m)), (21, uV (kP b m)), (22, uV j), (38, bV false)] zo ?_
    refine q8 ?_
    refine uT [.w, .no] ((-9223372036854775808) ≤ ((j : Int) + 1) ∧ ((j : Int) + 1) ≤ 9223372036854775807) [(3, rV 1 0), (5, oV 5 0 k2 2), (7, rV 4 0), (13, sV .i64 (kC a n) (kP a n)), (14, uV (kP a n)), (15, uV i), (20, sV .i64 (kC b m) (kP b m)), (21, uV (kP b m)), (22, iV (↑j + 1))] ⟨by omega, by omega⟩ ?_
    exact kW ⟨(((j + 1) : Nat), (k2 : Nat), (q : List Int)), ⟨uZ, (by first | exact hJ.y (kU hb) zo zo zo zo rfl | exact hJ.n (kU hb) zo zo), l4⟩⟩ [] (P := (kJ 0) ∧ (kJ 0) ∧ (kJ k2) ∧ (kJ 0) ∧ (kM (dI .i64 (kC a n))) ∧ (kJ (kP a n)) ∧ (kN (kP a n : Int)) ∧ (kN (i : Int)) ∧ (kM (dI .i64 (kC b m))) ∧ (kJ (kP b m)) ∧ (kN (kP b m : Int)) ∧ (((((j + 1) : Nat) : Int) : Int) = ((j : Int) + 1)) ∧ (kM [dl b m]) ∧ (kM (dI .i64 q)) ∧ (kM [iD (ka1 (kC a n) (i * 2) 0), iD (ka1 (kC a n) ((i * 2) + 1) 0)])) zk ⟨rfl, rfl, rfl, rfl, rfl, rfl, rfl, rfl, rfl, rfl, rfl, vV, rfl, rfl, rfl⟩ (show kP b m - (j + 1) < kP b m - j from aR)
  ·refine kK [.b false] (¬ ((j : Int) < (kP b m : Int))) [(3, rV 1 0), (5, oV 5 0 k2 2), (7, rV 4 0), (13, sV .i64 (kC a n) (kP a n)), (14, uV (kP a n)), (15, uV i), (20, sV .i64 (kC b m) (kP b m)), (21, uV (kP b m)), (22, uV j), (23, bV false)] [(1, some (56, .ds [dl b m])), (4, some (77, (fX a n i))), (5, some (77, .ds (dI .i64 q)))] 6 zo ?_
   refine AW.seq ?_
   refine zf ?_
   refine AW.exit ?_
   refine aH [.w, .no] ((-9223372036854775808) ≤ ((i : Int) + 1) ∧ ((i : Int) + 1) ≤ 9223372036854775807) [(3, rV 1 0), (5, oV 5 0 k2 2), (13, sV .i64 (kC a n) (kP a n)), (14, uV (kP a n)), (15, iV (↑i + 1))] [(1, some (56, .ds [dl b m])), (5, some (77, .ds (dI .i64 q)))] 6 ⟨by omega, by omega⟩ ?_
   exact kW ⟨(((i + 1) : Nat), (k2 : Nat), (q : List Int)), ⟨uZ, (hJ.out (kU ha) zo (kU hb) zo), (by first | assumption | omega)⟩⟩ [(3, 5)] (P := (kJ 0) ∧ (kJ 0) ∧ (kJ k2) ∧ (kM (dI .i64 (kC a n))) ∧ (kJ (kP a n)) ∧ (kN (kP a n : Int)) ∧ (((((i + 1) : Nat) : Int) : Int) = ((i : Int) + 1)) ∧ (kM [dl b m]) ∧ (kM (dI .i64 q))) zk ⟨rfl, rfl, rfl, rfl, rfl, rfl, vV, rfl, rfl⟩ (show kP a n - (i + 1) < kP a n - i from aR)
 ·refine kK [.b false] (¬ ((i : Int) < (kP a n : Int))) [(3, rV 1 0), (5, oV 3 0 k 2), (13, sV .i64 (kC a n) (kP a n)), (14, uV (kP a n)), (15, uV i), (16, bV false)] [(1, some (56, .ds [dl b m])), (3, some (77, .ds (dI .i64 o)))] 4 zo ?_
  refine AW.seq ?_
  refine zf ?_
  refine AW.exit ?_
  refine kK [.no, .no] True [(4, oV 3 0 k 2)] [(3, some (77, .ds (dI .i64 o)))] 4 trivial ?_
  obtain ⟨hz1, hz2⟩ := hA.fin (kU ha) zo
  have hz3 : aW (kC a n) (kC b m) = k := hz2
  refine AW.freeze 3 (l' := [(4, sV .i64 o k)]) (g' := []) rfl (FzS.cons rfl (.e (.c (@FzC.own 3 ((dI .i64 o) : List D) 0 k 2 true ((dI .i64 o) : List D) tE aS))) FzS.nil) FzG.nil ?_
  refine AW.ret ?_
  exact kA (.inr rfl) [] (P := (((dI .i64 (jR (kC a n) (kC b m))) : List D) = (dI .i64 o)) ∧ (((aW (kC a n) (kC b m)) : Nat) = k)) zk ⟨(by first | exact congrArg _ hz1.symm | rfl), l3⟩
theorem k1k {p : Prop} (h : p := by first | rfl | assumption | exact decide_eq_true (by omega) | exact decide_eq_false (by omega) | (simp; omega)) : p := h
theorem s5 (p q u w : Int)  : Fun 144 [.agg [iC p, iC q], .c (.ptr 0 0)] (kH [(0, some (77, .ds [iD u, iD w]))]) 1 (uP (D.lit (.bool (decide (p ≤ u ∧ w ≤ q))))) (kH [(0, some (77, .ds [iD u, iD w]))]) 1 := by
 refine Fun.mk (n := 16) Tryz.func144 rfl rfl (ka4 rfl) ?_
 intro cx hcx
 refine kK [.no, .no] True [(1, rV 0 0), (2, rV 1 0)] [(0, some (77, .ds [iD u, iD w])), (1, some (77, .ds [iD p, iD q]))] 2 trivial ?_
 by_cases hx1 : (p ≤ u)
 ·by_cases hx2 : (w ≤ q)
  ·refine kK (qE 4 (.b true :: qE 5 [.b true, .no, .no])) (((p ≤ u)) ∧ ((w ≤ q))) [(3, bV true)] [(0, some (77, .ds [iD u, iD w]))] 2 ⟨zo, zo⟩ ?_
   refine AW.ret ?_
   exact kA (.inr rfl) [] (P := ((decide (p ≤ u ∧ w ≤ q)) = true) ∧ (kM [iD u, iD w])) zk ⟨k1k, rfl⟩
  ·refine kK (qE 4 (.b true :: qE 5 [.b false, .no, .no])) (((p ≤ u)) ∧ (¬ (w ≤ q))) [(3, bV false)] [(0, some (77, .ds [iD u, iD w]))] 2 ⟨zo, zo⟩ ?_
   refine AW.ret ?_
   exact kA (.inr rfl) [] (P := ((decide (p ≤ u ∧ w ≤ q)) = false) ∧ (kM [iD u, iD w])) zk ⟨k1k, rfl⟩
 ·refine kK (qE 4 [.b false, .no, .no, .no]) (¬ (p ≤ u)) [(3, bV false)] [(0, some (77, .ds [iD u, iD w]))] 2 zo ?_
  refine AW.ret ?_
  exact kA (.inr rfl) [] (P := ((decide (p ≤ u ∧ w ≤ q)) = false) ∧ (kM [iD u, iD w])) zk ⟨k1k, rfl⟩
theorem nG (b : List Int) (m : Nat) (u w : Int) (hb : ka0 b = m * 2) (h2 : m ≤ 1000000) : Fun 150 [.c (.d (D.sl (dI .i64 b) m)), .c (.fn 144 [(0, 0)])] (kH [(0, some (77, .ds [iD u, iD w]))]) 1 (iV (oC b u w m)) (kH [(0, some (77, .ds [iD u, iD w]))]) 1 := by
 refine Fun.mk (n := 19) Tryz.func150 rfl rfl (ka4 rfl) ?_
 intro cx hcx
 refine kK [.no] True [(0, sV .i64 b m), (1, .e (.c (.fn 144 [(0, 0)])))] [(0, some (77, .ds [iD u, iD w]))] 1 trivial ?_
 refine AW.seq ?_
 refine kO [.no, .no, .no] True [(0, sV .i64 b m), (1, .e (.c (.fn 144 [(0, 0)]))), (7, uV m), (8, iV 0)] trivial ?_
 refine AW.block ?_
 refine kY 1 hcx (fun (x : {x : Nat // match x with | k => (k ≤ m) ∧ (oC b u w k = -1)}) => match x with | ⟨k, _⟩ => (⟨[(0, sV .i64 b m), (1, .e (.c (.fn 144 [(0, 0)]))), (7, uV m), (8, uV k)], [(0, some (77, .ds [iD u, iD w]))], 1⟩ : ES)) (fun x => match x with | ⟨k, _⟩ => m - k) ⟨(0 : Nat), ⟨uZ, rfl⟩⟩ [] (P := (kM (dI .i64 b)) ∧ (kJ m) ∧ (kN (m : Int)) ∧ (kN 0) ∧ (kM [iD u, iD w])) zk ⟨rfl, rfl, rfl, rfl, rfl⟩ ?_
 rintro ⟨k, hinv0⟩
 obtain ⟨hk, hi⟩ : (k ≤ m) ∧ (oC b u w k = -1) := hinv0
 refine qR (l := [(0, sV .i64 b m), (1, .e (.c (.fn 144 [(0, 0)]))), (7, uV m), (8, uV k)]) (g := [(0, some (77, .ds [iD u, iD w]))]) (nx := 1) rfl rfl rfl ?_
 by_cases hx1 : (((k : Nat) : Int) < ((m : Nat) : Int))
 ·refine kK [.b true] (((k : Int) < (m : Int))) [(0, sV .i64 b m), (1, .e (.c (.fn 144 [(0, 0)]))), (7, uV m), (8, uV k), (9, bV true)] [(0, some (77, .ds [iD u, iD w]))] 1 zo ?_
  refine AW.seq ?_
  refine vB ?_
  refine AW.seq ?_
  refine AW.block ?_
  refine kO [.no, .no] True [(0, sV .i64 b m), (1, .e (.c (.fn 144 [(0, 0)]))), (5, uV k), (7, uV m), (8, uV k)] trivial ?_
  rcases ka9 (decide ((ka1 b (k * 2) 0) ≤ u ∧ w ≤ (ka1 b ((k * 2) + 1) 0))) with hx2 | hx2
  ·have hx3 : (((ka1 b (k * 2) 0) ≤ u) ∧ (w ≤ (ka1 b ((k * 2) + 1) 0))) := of_decide_eq_true hx2
   refine kO [.no, .no, .no, .n k, .ds [iD (ka1 b (k * 2) 0), iD (ka1 b ((k * 2) + 1) 0)], .call [0] (bV true) [(0, some (77, .ds [iD u, iD w]))] 1 [] none] ((kN (k : Int)) ∧ (k < m) ∧ (ka5 2 (ka3 (k * 2) (dI .i64 b)) = [iD (ka1 b (k * 2) 0), iD (ka1 b ((k * 2) + 1) 0)]) ∧ (([iD (ka1 b (k * 2) 0), iD (ka1 b ((k * 2) + 1) 0)] : List D).length = 2) ∧ (Fun 144 [.agg [iC (ka1 b (k * 2) 0), iC (ka1 b ((k * 2) + 1) 0)], .c (.ptr 0 0)] (kH [(0, some (77, .ds [iD u, iD w]))]) 1 (bV true) (kH [(0, some (77, .ds [iD u, iD w]))]) 1)) [(0, sV .i64 b m), (1, .e (.c (.fn 144 [(0, 0)]))), (5, uV k), (7, uV m), (8, uV k), (16, bV true)] ⟨rfl, zo, (aM .i64 b (k * 2) 2 aS), rfl, (by have h0 := (s5 (ka1 b (k * 2) 0) (ka1 b ((k * 2) + 1) 0) u w); rw [hx2] at h0; exact h0)⟩ ?_
   refine zt ?_
   refine kO [.no, .no] True [(4, uV k)] trivial ?_
   refine AW.ret ?_
   exact kA (.inr rfl) [] (P := (((oC b u w m) : Int) = (k : Int)) ∧ (kM [iD u, iD w])) zk ⟨(by first | rfl | exact xG hi zo m zo | (rw [show m = k by omega]; exact hi) | omega), rfl⟩
  ·have hx4 : ¬ (((ka1 b (k * 2) 0) ≤ u) ∧ (w ≤ (ka1 b ((k * 2) + 1) 0))) := of_decide_eq_false hx2
   refine kO [.no, .no, .no, .n k, .ds [iD (ka1 b (k * 2) 0), iD (ka1 b ((k * 2) + 1) 0)], .call [0] (bV false) [(0, some (77, .ds [iD u, iD w]))] 1 [] none] ((kN (k : Int)) ∧ (k < m) ∧ (ka5 2 (ka3 (k * 2) (dI .i64 b)) = [iD (ka1 b (k * 2) 0), iD (ka1 b ((k * 2) + 1) 0)]) ∧ (([iD (ka1 b (k * 2) 0), iD (ka1 b ((k * 2) + 1) 0)] : List D).length = 2) ∧ (Fun 144 [.agg [iC (ka1 b (k * 2) 0), iC (ka1 b ((k * 2) + 1) 0)], .c (.ptr 0 0)] (kH [(0, some (77, .ds [iD u, iD w]))]) 1 (bV false) (kH [(0, some (77, .ds [iD u, iD w]))]) 1)) [(0, sV .i64 b m), (1, .e (.c (.fn 144 [(0, 0)]))), (5, uV k), (7, uV m), (8, uV k), (16, bV false)] ⟨rfl, zo, (aM .i64 b (k * 2) 2 aS), rfl, (by have h0 := (s5 (ka1 b (k * 2) 0) (ka1 b ((k * 2) + 1) 0) u w); rw [hx2] at h0; exact h0)⟩ ?_
   refine q8 ?_
   refine uT [.w, .no] ((-9223372036854775808) ≤ ((k : Int) + 1) ∧ ((k : Int) + 1) ≤ 9223372036854775807) [(0, sV .i64 b m), (1, .e (.c (.fn 144 [(0, 0)]))), (7, uV m), (8, iV (↑k + 1))] ⟨by omega, by omega⟩ ?_
   exact kW ⟨((k + 1) : Nat), ⟨uZ, (k4a hi zo)⟩⟩ [] (P := (kM (dI .i64 b)) ∧ (kJ m) ∧ (kN (m : Int)) ∧ (((((k + 1) : Nat) : Int) : Int) = ((k : Int) + 1)) ∧ (kM [iD u, iD w])) zk ⟨rfl, rfl, rfl, vV, rfl⟩ (show m - (k + 1) < m - k from aR)
 ·refine kK [.b false] (¬ ((k : Int) < (m : Int))) [(0, sV .i64 b m), (1, .e (.c (.fn 144 [(0, 0)]))), (7, uV m), (8, uV k), (9, bV false)] [(0, some (77, .ds [iD u, iD w]))] 1 zo ?_
  refine AW.seq ?_
  refine zf ?_
  refine AW.exit ?_
  refine kK [.no] True [(4, iV (-1))] [(0, some (77, .ds [iD u, iD w]))] 1 trivial ?_
  refine AW.ret ?_
  exact kA (.inr rfl) [] (P := (((oC b u w m) : Int) = (-1)) ∧ (kM [iD u, iD w])) zk ⟨(by first | rfl | exact xG hi zo m zo | (rw [show m = k by omega]; exact hi) | omega), rfl⟩
theorem pX (b : List Int) (m : Nat) (u w : Int) (hb : ka0 b = m * 2) (h2 : m ≤ 1000000) : Fun 145 [.c (.d (D.sl (dI .i64 b) m)), .c (.fn 144 [(0, 0)])] (kH [(0, some (77, .ds [iD u, iD w]))]) 1 (uP (D.lit (.bool (coB b u w)))) (kH [(0, some (77, .ds [iD u, iD w]))]) 1 := by
 refine Fun.mk (n := 9) Tryz.func145 rfl rfl (ka4 rfl) ?_
 intro cx hcx
 refine kK [.no] True [(0, sV .i64 b m), (1, .e (.c (.fn 144 [(0, 0)])))] [(0, some (77, .ds [iD u, iD w]))] 1 trivial ?_
 by_cases hx1 : ((0 : Int) ≤ (oC b u w m))
 ·refine kO [.no, .no, .call [0] (iV (oC b u w m)) [(0, some (77, .ds [iD u, iD w]))] 1 [] none, .b true, .no] ((_) ∧ (((0 : Int) ≤ (oC b u w m)))) [(4, bV true)] ⟨(nG b m u w zo zo), zo⟩ ?_
  refine AW.ret ?_
  exact kA (.inr rfl) [] (P := ((coB b u w) = true) ∧ (kM [iD u, iD w])) zk ⟨(by first | exact v0q hb zo | exact v0r hb zo), rfl⟩
 ·refine kO [.no, .no, .call [0] (iV (oC b u w m)) [(0, some (77, .ds [iD u, iD w]))] 1 [] none, .b false, .no] ((_) ∧ (¬ ((0 : Int) ≤ (oC b u w m)))) [(4, bV false)] ⟨(nG b m u w zo zo), zo⟩ ?_
  refine AW.ret ?_
  exact kA (.inr rfl) [] (P := ((coB b u w) = false) ∧ (kM [iD u, iD w])) zk ⟨(by first | exact v0q hb zo | exact v0r hb zo), rfl⟩
theorem fU {p : Prop} (h : p := by first | omega | with_reducible assumption | (simp only [uN, ka6, kb0, kb1, kb2, kb3, kb4, kb8] <;> omega) | rfl | assumption) : p := h
abbrev jA (a : List Int) (n : Nat) (k : Nat) : BC := .ds [iD (ka1 (kC a n) (k * 2) 0), iD (ka1 (kC a n) ((k * 2) + 1) 0)]
theorem eJ (a b : List Int) (n m : Nat) (ha : ka0 a = n * 2) (hb : ka0 b = m * 2) (h3 : n ≤ 9223372036854775807) (h4 : m ≤ 9223372036854775807) : Fun 125 [.agg [.d (D.sl (dI .i64 a) n)], .agg [.d (D.sl (dI .i64 b) m)]] (kH []) 0 (uP (D.lit (.bool (inB (kC a n) (kC b m))))) (kH []) 0 := by
 refine Fun.mk (n := 24) Tryz.func125 rfl rfl (ka4 rfl) ?_
 intro cx hcx
 refine kK [.no, .no, .no] True [(2, rV 0 0), (3, rV 1 0)] [(0, some (56, .ds [dl a n])), (1, some (56, .ds [dl b m]))] 2 trivial ?_
 have hx1 : ((ka0 (kC b m)) = ((kP b m) * 2)) := kU (zo)
 have hx2 : (((kP b m) ≤ 64) ∧ ((kP b m) ≤ m)) := aN
 refine kK [.no, .call [] (sV .i64 (kC b m) (kP b m)) [] 0 [] none, .no] _ [(2, rV 0 0), (5, sV .i64 (kC b m) (kP b m))] [(0, some (56, .ds [dl a n]))] 2 (iG b m zo zo) ?_
 refine AW.seq ?_
 have hx3 : ((ka0 (kC a n)) = ((kP a n) * 2)) := kU (zo)
 have hx4 : (((kP a n) ≤ 64) ∧ ((kP a n) ≤ n)) := aN
 refine kK [.no, .call [] (sV .i64 (kC a n) (kP a n)) [] 0 [] none, .no, .no] _ [(5, sV .i64 (kC b m) (kP b m)), (12, sV .i64 (kC a n) (kP a n)), (13, uV (kP a n)), (14, iV 0)] [] 2 (iG a n zo zo) ?_
 refine AW.block ?_
 refine kY 0 hcx (fun (x : {x : Nat // match x with | k => (k ≤ kP a n) ∧ (∀ j, j < k → coB (kC b m) (ka1 (kC a n) (j * 2) 0) (ka1 (kC a n) (j * 2 + 1) 0) = true)}) => match x with | ⟨k, _⟩ => (⟨[(5, sV .i64 (kC b m) (kP b m)), (12, sV .i64 (kC a n) (kP a n)), (13, uV (kP a n)), (14, uV k)], [], 2⟩ : ES)) (fun x => match x with | ⟨k, _⟩ => kP a n - k) ⟨(0 : Nat), ⟨uZ, (fun j hj => absurd hj (Nat.not_lt_zero j))⟩⟩ [] (P := (kM (dI .i64 (kC b m))) ∧ (kJ (kP b m)) ∧ (kM (dI .i64 (kC a n))) ∧ (kJ (kP a n)) ∧ (kN (kP a n : Int)) ∧ (kN 0)) zk ⟨rfl, rfl, rfl, rfl, rfl, rfl⟩ ?_
 rintro ⟨k, hinv0⟩
 obtain ⟨hk, hq⟩ : (k ≤ kP a n) ∧ (∀ j, j < k → coB (kC b m) (ka1 (kC a n) (j * 2) 0) (ka1 (kC a n) (j * 2 + 1) 0) = true) := hinv0
 refine qR (l := [(5, sV .i64 (kC b m) (kP b m)), (12, sV .i64 (kC a n) (kP a n)), (13, uV (kP a n)), (14, uV k)]) (g := []) (nx := 2) rfl rfl rfl ?_
 by_cases hx5 : (((k : Nat) : Int) < (((kP a n) : Nat) : Int))
 ·refine kK [.b true] (((k : Int) < (kP a n : Int))) [(5, sV .i64 (kC b m) (kP b m)), (12, sV .i64 (kC a n) (kP a n)), (13, uV (kP a n)), (14, uV k), (15, bV true)] [] 2 zo ?_
  refine AW.seq ?_
  refine vB ?_
  refine AW.seq ?_
  refine AW.block ?_
  refine kK [.n k, .ds [iD (ka1 (kC a n) (k * 2) 0), iD (ka1 (kC a n) ((k * 2) + 1) 0)], .no, .no] ((kN (k : Int)) ∧ (k < (kP a n)) ∧ (ka5 2 (ka3 (k * 2) (dI .i64 (kC a n))) = [iD (ka1 (kC a n) (k * 2) 0), iD (ka1 (kC a n) ((k * 2) + 1) 0)]) ∧ (([iD (ka1 (kC a n) (k * 2) 0), iD (ka1 (kC a n) ((k * 2) + 1) 0)] : List D).length = 2)) [(5, sV .i64 (kC b m) (kP b m)), (7, rV 2 0), (12, sV .i64 (kC a n) (kP a n)), (13, uV (kP a n)), (14, uV k)] [(2, some (77, (jA a n k)))] 3 ⟨rfl, zo, (aM .i64 (kC a n) (k * 2) 2 aS), rfl⟩ ?_
  refine kO [.no, .no] True [(5, sV .i64 (kC b m) (kP b m)), (8, .e (.c (.fn 144 [(2, 0)]))), (12, sV .i64 (kC a n) (kP a n)), (13, uV (kP a n)), (14, uV k)] trivial ?_
  rcases ka9 (coB (kC b m) (ka1 (kC a n) (k * 2) 0) (ka1 (kC a n) ((k * 2) + 1) 0)) with hx6 | hx6
  ·refine kK [.no, .no, .call [2] (bV true) [(0, some (77, (jA a n k)))] 1 [] none, .no] (Fun 145 [.c (.d (dl (kC b m) (kP b m))), .c (.fn 144 [(0, 0)])] (kH [(0, some (77, (jA a n k)))]) 1 (bV true) (kH [(0, some (77, (jA a n k)))]) 1) [(5, sV .i64 (kC b m) (kP b m)), (12, sV .i64 (kC a n) (kP a n)), (13, uV (kP a n)), (14, uV k), (22, bV false)] [] 3 (by have h0 := (pX (kC b m) (kP b m) (ka1 (kC a n) (k * 2) 0) (ka1 (kC a n) ((k * 2) + 1) 0) fU fU); rw [hx6] at h0; exact h0) ?_
   refine q8 ?_
   refine uT [.w, .no] ((-9223372036854775808) ≤ ((k : Int) + 1) ∧ ((k : Int) + 1) ≤ 9223372036854775807) [(5, sV .i64 (kC b m) (kP b m)), (12, sV .i64 (kC a n) (kP a n)), (13, uV (kP a n)), (14, iV (↑k + 1))] ⟨by omega, by omega⟩ ?_
   exact kW ⟨((k + 1) : Nat), ⟨uZ, (fun j hj => (Nat.lt_succ_iff_lt_or_eq.1 hj).elim (hq j) (fun e9 => by subst e9; assumption))⟩⟩ [] (P := (kM (dI .i64 (kC b m))) ∧ (kJ (kP b m)) ∧ (kM (dI .i64 (kC a n))) ∧ (kJ (kP a n)) ∧ (kN (kP a n : Int)) ∧ (((((k + 1) : Nat) : Int) : Int) = ((k : Int) + 1))) zk ⟨rfl, rfl, rfl, rfl, rfl, vV⟩ (show kP a n - (k + 1) < kP a n - k from aR)
  ·refine kK [.no, .no, .call [2] (bV false) [(0, some (77, (jA a n k)))] 1 [] none, .no] (Fun 145 [.c (.d (dl (kC b m) (kP b m))), .c (.fn 144 [(0, 0)])] (kH [(0, some (77, (jA a n k)))]) 1 (bV false) (kH [(0, some (77, (jA a n k)))]) 1) [(5, sV .i64 (kC b m) (kP b m)), (12, sV .i64 (kC a n) (kP a n)), (13, uV (kP a n)), (14, uV k), (22, bV true)] [] 3 (by have h0 := (pX (kC b m) (kP b m) (ka1 (kC a n) (k * 2) 0) (ka1 (kC a n) ((k * 2) + 1) 0) fU fU); rw [hx6] at h0; exact h0) ?_
   refine zt ?_
   refine kO [.no] True [(4, bV false)] trivial ?_
   refine AW.ret ?_
   exact kA (.inr rfl) [] (P := ((inB (kC a n) (kC b m)) = false)) zk (by first | exact v0c (kU ha) (fun j hj => hq j zo) | exact v0d (k := k) (kU ha) zo (by assumption))
 ·refine kK [.b false] (¬ ((k : Int) < (kP a n : Int))) [(5, sV .i64 (kC b m) (kP b m)), (12, sV .i64 (kC a n) (kP a n)), (13, uV (kP a n)), (14, uV k), (15, bV false)] [] 2 zo ?_
  refine AW.seq ?_
  refine zf ?_
  refine AW.exit ?_
  refine kK [.no] True [(4, bV true)] [] 2 trivial ?_
  refine AW.ret ?_
  exact kA (.inr rfl) [] (P := ((inB (kC a n) (kC b m)) = true)) zk (by first | exact v0c (kU ha) (fun j hj => hq j zo) | exact v0d (k := k) (kU ha) zo (by assumption))
theorem xS (a b : Int) (ha : -9223372036854775808 ≤ a ∧ a ≤ 9223372036854775807) (hb : -9223372036854775808 ≤ b ∧ b ≤ 9223372036854775807) : Fun 137 [iE a, iE b] (kH []) 0 (uP (D.lit (.int .u64 (vA a b)))) (kH []) 0 := by
 refine Fun.mk (n := 18) Tryz.func137 rfl rfl (ka4 rfl) ?_
 intro cx hcx
 refine kK [.no] True [(0, iV a), (1, iV b)] [] 0 trivial ?_
 refine AW.seq ?_
 by_cases hx1 : (b < a)
 ·refine kO [.no, .no, .b true] ((b < a)) [(0, iV a), (1, iV b), (7, bV true)] zo ?_
  refine zt ?_
  refine kO [.no, .i (a % 18446744073709551616), .no, .i (b % 18446744073709551616), .i (a - b), .no] ((IntKind.u64.wrap (a : Int) = (a % 18446744073709551616)) ∧ (IntKind.u64.wrap (b : Int) = (b % 18446744073709551616)) ∧ (IntKind.u64.wrap (((a % 18446744073709551616) - (b % 18446744073709551616)) : Int) = (a - b))) [(4, uP (D.lit (.int .u64 (a - b))))] ⟨(vG _), (vG _), (by rw [vG]; omega)⟩ ?_
  refine AW.ret ?_
  exact kA (.inr rfl) [] (P := (((vA a b) : Int) = (a - b))) zk (by unfold vA; split <;> omega)
 ·refine kO [.no, .no, .b false] (¬ (b < a)) [(0, iV a), (1, iV b), (7, bV false)] zo ?_
  refine q8 ?_
  refine kO [.no, .i (b % 18446744073709551616), .no, .i (a % 18446744073709551616), .i (b - a), .no] ((IntKind.u64.wrap (b : Int) = (b % 18446744073709551616)) ∧ (IntKind.u64.wrap (a : Int) = (a % 18446744073709551616)) ∧ (IntKind.u64.wrap (((b % 18446744073709551616) - (a % 18446744073709551616)) : Int) = (b - a))) [(4, uP (D.lit (.int .u64 (b - a))))] ⟨(vG _), (vG _), (by rw [vG]; omega)⟩ ?_
  refine AW.ret ?_
  exact kA (.inr rfl) [] (P := (((vA a b) : Int) = (b - a))) zk (by unfold vA; split <;> omega)
theorem xT (a b : Int) (ha : -9223372036854775808 ≤ a ∧ a ≤ 9223372036854775807) (hb : -9223372036854775808 ≤ b ∧ b ≤ 9223372036854775807) : Fun 138 [iE a, iE b] (kH []) 0 (uP (D.lit (.int .u64 (vA a b)))) (kH []) 0 := by
 refine Fun.mk (n := 18) Tryz.func138 rfl rfl (ka4 rfl) ?_
 intro cx hcx
 refine kK [.no] True [(0, iV a), (1, iV b)] [] 0 trivial ?_
 refine AW.seq ?_
 by_cases hx1 : (a < b)
 ·refine kO [.no, .no, .b true] ((a < b)) [(0, iV a), (1, iV b), (7, bV true)] zo ?_
  refine zt ?_
  refine kO [.no, .i (b % 18446744073709551616), .no, .i (a % 18446744073709551616), .i (b - a), .no] ((IntKind.u64.wrap (b : Int) = (b % 18446744073709551616)) ∧ (IntKind.u64.wrap (a : Int) = (a % 18446744073709551616)) ∧ (IntKind.u64.wrap (((b % 18446744073709551616) - (a % 18446744073709551616)) : Int) = (b - a))) [(4, uP (D.lit (.int .u64 (b - a))))] ⟨(vG _), (vG _), (by rw [vG]; omega)⟩ ?_
  refine AW.ret ?_
  exact kA (.inr rfl) [] (P := (((vA a b) : Int) = (b - a))) zk (by unfold vA; split <;> omega)
 ·refine kO [.no, .no, .b false] (¬ (a < b)) [(0, iV a), (1, iV b), (7, bV false)] zo ?_
  refine q8 ?_
  refine kO [.no, .i (a % 18446744073709551616), .no, .i (b % 18446744073709551616), .i (a - b), .no] ((IntKind.u64.wrap (a : Int) = (a % 18446744073709551616)) ∧ (IntKind.u64.wrap (b : Int) = (b % 18446744073709551616)) ∧ (IntKind.u64.wrap (((a % 18446744073709551616) - (b % 18446744073709551616)) : Int) = (a - b))) [(4, uP (D.lit (.int .u64 (a - b))))] ⟨(vG _), (vG _), (by rw [vG]; omega)⟩ ?_
  refine AW.ret ?_
  exact kA (.inr rfl) [] (P := (((vA a b) : Int) = (a - b))) zk (by unfold vA; split <;> omega)
theorem dB {p : Prop} (h : p := by first | rfl | assumption | simp) : p := h
theorem u0y (l : List Int) (n : Nat) (z : Int) (hl : ka0 l = n * 2) (hb : n ≤ 9223372036854775807) (hz : -9223372036854775808 ≤ z ∧ z ≤ 9223372036854775807) : Fun 100 [.agg [.d (D.sl (dI .i64 l) n)], iE z] (kH []) 0 (.tup [iE (q9 z (kC l n)), .c (.d (D.lit (.bool (nrF z (kC l n)))))]) (kH []) 0 := by
 refine Fun.mk (n := 40) Tryz.func100 rfl rfl (ka4 rfl) ?_
 intro cx hcx
 refine kK [.no, .no, .no] True [(1, iV z), (2, rV 0 0)] [(0, some (56, .ds [dl l n]))] 1 trivial ?_
 refine kO [.no, .no] True [(1, iV z), (2, rV 0 0), (6, iV 0), (7, bV false)] trivial ?_
 refine AW.seq ?_
 have hx1 : ((ka0 (kC l n)) = ((kP l n) * 2)) := kU (zo)
 have hx2 : (((kP l n) ≤ 64) ∧ ((kP l n) ≤ n)) := aN
 refine kK [.no, .call [] (sV .i64 (kC l n) (kP l n)) [] 0 [] none, .no, .no] _ [(1, iV z), (6, iV 0), (7, bV false), (12, sV .i64 (kC l n) (kP l n)), (13, uV (kP l n)), (14, iV 0)] [] 1 (iG l n zo zo) ?_
 refine AW.block ?_
 refine kY 0 hcx (fun (x : {x : Nat × Int × Bool // match x with | (i, y, f) => (i ≤ kP l n ∧ -9223372036854775808 ≤ y ∧ y ≤ 9223372036854775807) ∧ (NR z (kC l n) i y f)}) => match x with | ⟨(i, y, f), _⟩ => (⟨[(1, iV z), (6, iV y), (7, uP (D.lit (.bool (f)))), (12, sV .i64 (kC l n) (kP l n)), (13, uV (kP l n)), (14, uV i)], [], 1⟩ : ES)) (fun x => match x with | ⟨(i, y, f), _⟩ => kP l n - i) ⟨((0 : Nat), (0 : Int), (false : Bool)), ⟨uZ, (NR.zero _ _)⟩⟩ [] (P := (kN z) ∧ (kN 0) ∧ ((false) = false) ∧ (kM (dI .i64 (kC l n))) ∧ (kJ (kP l n)) ∧ (kN (kP l n : Int)) ∧ (kN 0)) zk ⟨rfl, rfl, dB, rfl, rfl, rfl, rfl⟩ ?_
 rintro ⟨⟨i, y, f⟩, hinv0⟩
 obtain ⟨hi, hN⟩ : (i ≤ kP l n ∧ -9223372036854775808 ≤ y ∧ y ≤ 9223372036854775807) ∧ (NR z (kC l n) i y f) := hinv0
 refine qR (l := [(1, iV z), (6, iV y), (7, uP (D.lit (.bool (f)))), (12, sV .i64 (kC l n) (kP l n)), (13, uV (kP l n)), (14, uV i)]) (g := []) (nx := 1) rfl rfl rfl ?_
 by_cases hx3 : (((i : Nat) : Int) < (((kP l n) : Nat) : Int))
 ·have hx4 : 0 ≤ ka1 (kC l n) (i * 2) 0 ∧ ka1 (kC l n) (i * 2) 0 ≤ ka1 (kC l n) (i * 2 + 1) 0 ∧ ka1 (kC l n) (i * 2 + 1) 0 ≤ 2147483647 := u41 hl i zo
  refine kK [.b true] (((i : Int) < (kP l n : Int))) [(1, iV z), (6, iV y), (7, uP (D.lit (.bool (f)))), (12, sV .i64 (kC l n) (kP l n)), (13, uV (kP l n)), (14, uV i), (15, bV true)] [] 1 zo ?_
  refine AW.seq ?_
  refine vB ?_
  refine AW.seq ?_
  refine AW.block ?_
  refine kK [.n i, .ds [iD (ka1 (kC l n) (i * 2) 0), iD (ka1 (kC l n) ((i * 2) + 1) 0)], .no, .no] ((kN (i : Int)) ∧ (i < (kP l n)) ∧ (ka5 2 (ka3 (i * 2) (dI .i64 (kC l n))) = [iD (ka1 (kC l n) (i * 2) 0), iD (ka1 (kC l n) ((i * 2) + 1) 0)]) ∧ (([iD (ka1 (kC l n) (i * 2) 0), iD (ka1 (kC l n) ((i * 2) + 1) 0)] : List D).length = 2)) [(1, iV z), (6, iV y), (7, uP (D.lit (.bool (f)))), (9, rV 1 0), (12, sV .i64 (kC l n) (kP l n)), (13, uV (kP l n)), (14, uV i)] [(1, some (77, .ds [iD (ka1 (kC l n) (i * 2) 0), iD (ka1 (kC l n) ((i * 2) + 1) 0)]))] 2 ⟨rfl, zo, (aM .i64 (kC l n) (i * 2) 2 aS), rfl⟩ ?_
  refine kK (qE 8 []) True [(1, iV z), (6, iV y), (7, uP (D.lit (.bool (f)))), (10, iV (min (max z (ka1 (kC l n) (i * 2) 0)) (ka1 (kC l n) ((i * 2) + 1) 0))), (12, sV .i64 (kC l n) (kP l n)), (13, uV (kP l n)), (14, uV i)] [] 2 trivial ?_
  rcases ka9 (f) with hx5 | hx5
  ·subst hx5
   by_cases hx8 : ((vA (min (max z (ka1 (kC l n) (i * 2) 0)) (ka1 (kC l n) ((i * 2) + 1) 0)) z) < (vA y z))
   ·have hx9 : ((0 : Int) ≤ (vA (min (max z (ka1 (kC l n) (i * 2) 0)) (ka1 (kC l n) ((i * 2) + 1) 0)) z)) := gL
    have hx10 : ((0 : Int) ≤ (vA y z)) := gL
    refine kK (qE 5 [.call [] (uP (D.lit (.int .u64 (vA (min (max z (ka1 (kC l n) (i * 2) 0)) (ka1 (kC l n) ((i * 2) + 1) 0)) z)))) [] 0 [] none, .no, .no, .call [] (uP (D.lit (.int .u64 (vA y z)))) [] 0 [] none, .b true, .no]) ((_) ∧ (_) ∧ (((vA (min (max z (ka1 (kC l n) (i * 2) 0)) (ka1 (kC l n) ((i * 2) + 1) 0)) z) < (vA y z)))) [(1, iV z), (6, iV y), (7, bV true), (10, iV (min (max z (ka1 (kC l n) (i * 2) 0)) (ka1 (kC l n) ((i * 2) + 1) 0))), (12, sV .i64 (kC l n) (kP l n)), (13, uV (kP l n)), (14, uV i), (35, bV true)] [] 2 ⟨(xS (min (max z (ka1 (kC l n) (i * 2) 0)) (ka1 (kC l n) ((i * 2) + 1) 0)) z fU zo), (xS y z zo zo), zo⟩ ?_
    refine zt ?_
    refine uT [.no, .no, .no] True [(1, iV z), (6, iV (min (max z (ka1 (kC l n) (i * 2) 0)) (ka1 (kC l n) ((i * 2) + 1) 0))), (7, bV true), (12, sV .i64 (kC l n) (kP l n)), (13, uV (kP l n)), (14, uV i)] trivial ?_
    refine uT [.w, .no] ((-9223372036854775808) ≤ ((i : Int) + 1) ∧ ((i : Int) + 1) ≤ 9223372036854775807) [(1, iV z), (6, iV (min (max z (ka1 (kC l n) (i * 2) 0)) (ka1 (kC l n) ((i * 2) + 1) 0))), (7, bV true), (12, sV .i64 (kC l n) (kP l n)), (13, uV (kP l n)), (14, iV (↑i + 1))] ⟨by omega, by omega⟩ ?_
    exact kW ⟨(((i + 1) : Nat), ((min (max z (ka1 (kC l n) (i * 2) 0)) (ka1 (kC l n) ((i * 2) + 1) 0)) : Int), (true : Bool)), ⟨uZ, (by first | exact hN.first (kU hl) zo (by show _ = max _ (min _ z); first | (simp only; done) | (simp only; omega) | omega) | exact hN.near (kU hl) zo (by show _ = max _ (min _ z); first | (simp only; done) | (simp only; omega) | omega) zo | exact hN.far (kU hl) zo (by assumption) (by show _ = max _ (min _ z); first | (simp only; done) | (simp only; omega) | omega))⟩⟩ [] (P := (kN z) ∧ (kN (min (max z (ka1 (kC l n) (i * 2) 0)) (ka1 (kC l n) ((i * 2) + 1) 0))) ∧ ((true) = true) ∧ (kM (dI .i64 (kC l n))) ∧ (kJ (kP l n)) ∧ (kN (kP l n : Int)) ∧ (((((i + 1) : Nat) : Int) : Int) = ((i : Int) + 1))) zk ⟨rfl, rfl, dB, rfl, rfl, rfl, vV⟩ (show kP l n - (i + 1) < kP l n - i from aR)
   ·have hx11 : ((0 : Int) ≤ (vA (min (max z (ka1 (kC l n) (i * 2) 0)) (ka1 (kC l n) ((i * 2) + 1) 0)) z)) := gL
    have hx12 : ((0 : Int) ≤ (vA y z)) := gL
    refine kK (qE 5 [.call [] (uP (D.lit (.int .u64 (vA (min (max z (ka1 (kC l n) (i * 2) 0)) (ka1 (kC l n) ((i * 2) + 1) 0)) z)))) [] 0 [] none, .no, .no, .call [] (uP (D.lit (.int .u64 (vA y z)))) [] 0 [] none, .b false, .no]) ((_) ∧ (_) ∧ (¬ ((vA (min (max z (ka1 (kC l n) (i * 2) 0)) (ka1 (kC l n) ((i * 2) + 1) 0)) z) < (vA y z)))) [(1, iV z), (6, iV y), (7, bV true), (10, iV (min (max z (ka1 (kC l n) (i * 2) 0)) (ka1 (kC l n) ((i * 2) + 1) 0))), (12, sV .i64 (kC l n) (kP l n)), (13, uV (kP l n)), (14, uV i), (35, bV false)] [] 2 ⟨(xS (min (max z (ka1 (kC l n) (i * 2) 0)) (ka1 (kC l n) ((i * 2) + 1) 0)) z fU zo), (xS y z zo zo), zo⟩ ?_
    refine q8 ?_
    refine uT [.w, .no] ((-9223372036854775808) ≤ ((i : Int) + 1) ∧ ((i : Int) + 1) ≤ 9223372036854775807) [(1, iV z), (6, iV y), (7, bV true), (12, sV .i64 (kC l n) (kP l n)), (13, uV (kP l n)), (14, iV (↑i + 1))] ⟨by omega, by omega⟩ ?_
    exact kW ⟨(((i + 1) : Nat), (y : Int), (true : Bool)), ⟨uZ, (by first | exact hN.first (kU hl) zo (by show _ = max _ (min _ z); first | (simp only; done) | (simp only; omega) | omega) | exact hN.near (kU hl) zo (by show _ = max _ (min _ z); first | (simp only; done) | (simp only; omega) | omega) zo | exact hN.far (kU hl) zo (by assumption) (by show _ = max _ (min _ z); first | (simp only; done) | (simp only; omega) | omega))⟩⟩ [] (P := (kN z) ∧ (kN y) ∧ ((true) = true) ∧ (kM (dI .i64 (kC l n))) ∧ (kJ (kP l n)) ∧ (kN (kP l n : Int)) ∧ (((((i + 1) : Nat) : Int) : Int) = ((i : Int) + 1))) zk ⟨rfl, rfl, dB, rfl, rfl, rfl, vV⟩ (show kP l n - (i + 1) < kP l n - i from aR)
  ·subst hx5
   refine kK (qE 4 []) True [(1, iV z), (6, iV y), (7, bV false), (10, iV (min (max z (ka1 (kC l n) (i * 2) 0)) (ka1 (kC l n) ((i * 2) + 1) 0))), (12, sV .i64 (kC l n) (kP l n)), (13, uV (kP l n)), (14, uV i), (35, bV true)] [] 2 trivial ?_
   refine zt ?_
   refine uT [.no, .no, .no] True [(1, iV z), (6, iV (min (max z (ka1 (kC l n) (i * 2) 0)) (ka1 (kC l n) ((i * 2) + 1) 0))), (7, bV true), (12, sV .i64 (kC l n) (kP l n)), (13, uV (kP l n)), (14, uV i)] trivial ?_
   refine uT [.w, .no] ((-9223372036854775808) ≤ ((i : Int) + 1) ∧ ((i : Int) + 1) ≤ 9223372036854775807) [(1, iV z), (6, iV (min (max z (ka1 (kC l n) (i * 2) 0)) (ka1 (kC l n) ((i * 2) + 1) 0))), (7, bV true), (12, sV .i64 (kC l n) (kP l n)), (13, uV (kP l n)), (14, iV (↑i + 1))] ⟨by omega, by omega⟩ ?_
   exact kW ⟨(((i + 1) : Nat), ((min (max z (ka1 (kC l n) (i * 2) 0)) (ka1 (kC l n) ((i * 2) + 1) 0)) : Int), (true : Bool)), ⟨uZ, (by first | exact hN.first (kU hl) zo (by show _ = max _ (min _ z); first | (simp only; done) | (simp only; omega) | omega) | exact hN.near (kU hl) zo (by show _ = max _ (min _ z); first | (simp only; done) | (simp only; omega) | omega) zo | exact hN.far (kU hl) zo (by assumption) (by show _ = max _ (min _ z); first | (simp only; done) | (simp only; omega) | omega))⟩⟩ [] (P := (kN z) ∧ (kN (min (max z (ka1 (kC l n) (i * 2) 0)) (ka1 (kC l n) ((i * 2) + 1) 0))) ∧ ((true) = true) ∧ (kM (dI .i64 (kC l n))) ∧ (kJ (kP l n)) ∧ (kN (kP l n : Int)) ∧ (((((i + 1) : Nat) : Int) : Int) = ((i : Int) + 1))) zk ⟨rfl, rfl, dB, rfl, rfl, rfl, vV⟩ (show kP l n - (i + 1) < kP l n - i from aR)
 ·refine kK [.b false] (¬ ((i : Int) < (kP l n : Int))) [(1, iV z), (6, iV y), (7, uP (D.lit (.bool (f)))), (12, sV .i64 (kC l n) (kP l n)), (13, uV (kP l n)), (14, uV i), (15, bV false)] [] 1 zo ?_
  refine AW.seq ?_
  refine zf ?_
  refine AW.exit ?_
  refine kK (qE 4 []) True [(4, iV y), (5, uP (D.lit (.bool (f))))] [] 1 trivial ?_
  obtain ⟨hz1, hz2⟩ := hN.fin (kU hl) zo
  refine AW.ret ?_
  exact kA (.inr rfl) [] (P := (((q9 z (kC l n)) : Int) = y) ∧ ((nrF z (kC l n)) = (f))) zk ⟨l3, hz2⟩
theorem k4k (l : List Int) (n : Nat) (z : Int) (hl : ka0 l = n * 2) (hb : n ≤ 9223372036854775807) (hz : -9223372036854775808 ≤ z ∧ z ≤ 9223372036854775807) : Fun 104 [.agg [.d (D.sl (dI .i64 l) n)], iE z] (kH []) 0 (.tup [iE (q9 z (kC l n)), .c (.d (D.lit (.bool (nrF z (kC l n)))))]) (kH []) 0 := by
 refine Fun.mk (n := 40) Tryz.func104 rfl rfl (ka4 rfl) ?_
 intro cx hcx
 refine kK [.no, .no, .no] True [(1, iV z), (2, rV 0 0)] [(0, some (56, .ds [dl l n]))] 1 trivial ?_
 refine kO [.no, .no] True [(1, iV z), (2, rV 0 0), (6, iV 0), (7, bV false)] trivial ?_
 refine AW.seq ?_
 have hx1 : ((ka0 (kC l n)) = ((kP l n) * 2)) := kU (zo)
 have hx2 : (((kP l n) ≤ 64) ∧ ((kP l n) ≤ n)) := aN
 refine kK [.no, .call [] (sV .i64 (kC l n) (kP l n)) [] 0 [] none, .no, .no] _ [(1, iV z), (6, iV 0), (7, bV false), (12, sV .i64 (kC l n) (kP l n)), (13, uV (kP l n)), (14, iV 0)] [] 1 (pV l n zo zo) ?_
 refine AW.block ?_
 refine kY 0 hcx (fun (x : {x : Nat × Int × Bool // match x with | (i, y, f) => (i ≤ kP l n ∧ -9223372036854775808 ≤ y ∧ y ≤ 9223372036854775807) ∧ (NR z (kC l n) i y f)}) => match x with | ⟨(i, y, f), _⟩ => (⟨[(1, iV z), (6, iV y), (7, uP (D.lit (.bool (f)))), (12, sV .i64 (kC l n) (kP l n)), (13, uV (kP l n)), (14, uV i)], [], 1⟩ : ES)) (fun x => match x with | ⟨(i, y, f), _⟩ => kP l n - i) ⟨((0 : Nat), (0 : Int), (false : Bool)), ⟨uZ, (NR.zero _ _)⟩⟩ [] (P := (kN z) ∧ (kN 0) ∧ ((false) = false) ∧ (kM (dI .i64 (kC l n))) ∧ (kJ (kP l n)) ∧ (kN (kP l n : Int)) ∧ (kN 0)) zk ⟨rfl, rfl, dB, rfl, rfl, rfl, rfl⟩ ?_
 rintro ⟨⟨i, y, f⟩, hinv0⟩
 obtain ⟨hi, hN⟩ : (i ≤ kP l n ∧ -9223372036854775808 ≤ y ∧ y ≤ 9223372036854775807) ∧ (NR z (kC l n) i y f) := hinv0
 refine qR (l := [(1, iV z), (6, iV y), (7, uP (D.lit (.bool (f)))), (12, sV .i64 (kC l n) (kP l n)), (13, uV (kP l n)), (14, uV i)]) (g := []) (nx := 1) rfl rfl rfl ?_
 by_cases hx3 : (((i : Nat) : Int) < (((kP l n) : Nat) : Int))
 ·have hx4 : 0 ≤ ka1 (kC l n) (i * 2) 0 ∧ ka1 (kC l n) (i * 2) 0 ≤ ka1 (kC l n) (i * 2 + 1) 0 ∧ ka1 (kC l n) (i * 2 + 1) 0 ≤ 2147483647 := u41 hl i zo
  refine kK [.b true] (((i : Int) < (kP l n : Int))) [(1, iV z), (6, iV y), (7, uP (D.lit (.bool (f)))), (12, sV .i64 (kC l n) (kP l n)), (13, uV (kP l n)), (14, uV i), (15, bV true)] [] 1 zo ?_
  refine AW.seq ?_
  refine vB ?_
  refine AW.seq ?_
  refine AW.block ?_
  refine kK [.n i, .ds [iD (ka1 (kC l n) (i * 2) 0), iD (ka1 (kC l n) ((i * 2) + 1) 0)], .no, .no] ((kN (i : Int)) ∧ (i < (kP l n)) ∧ (ka5 2 (ka3 (i * 2) (dI .i64 (kC l n))) = [iD (ka1 (kC l n) (i * 2) 0), iD (ka1 (kC l n) ((i * 2) + 1) 0)]) ∧ (([iD (ka1 (kC l n) (i * 2) 0), iD (ka1 (kC l n) ((i * 2) + 1) 0)] : List D).length = 2)) [(1, iV z), (6, iV y), (7, uP (D.lit (.bool (f)))), (9, rV 1 0), (12, sV .i64 (kC l n) (kP l n)), (13, uV (kP l n)), (14, uV i)] [(1, some (77, .ds [iD (ka1 (kC l n) (i * 2) 0), iD (ka1 (kC l n) ((i * 2) + 1) 0)]))] 2 ⟨rfl, zo, (aM .i64 (kC l n) (i * 2) 2 aS), rfl⟩ ?_
  refine kK (qE 8 []) True [(1, iV z), (6, iV y), (7, uP (D.lit (.bool (f)))), (10, iV (max (ka1 (kC l n) (i * 2) 0) (min (ka1 (kC l n) ((i * 2) + 1) 0) z))), (12, sV .i64 (kC l n) (kP l n)), (13, uV (kP l n)), (14, uV i)] [] 2 trivial ?_
  rcases ka9 (f) with hx5 | hx5
  ·subst hx5
   by_cases hx8 : ((vA (max (ka1 (kC l n) (i * 2) 0) (min (ka1 (kC l n) ((i * 2) + 1) 0) z)) z) < (vA y z))
   ·have hx9 : ((0 : Int) ≤ (vA (max (ka1 (kC l n) (i * 2) 0) (min (ka1 (kC l n) ((i * 2) + 1) 0) z)) z)) := gL
    have hx10 : ((0 : Int) ≤ (vA y z)) := gL
    refine kK (qE 5 [.call [] (uP (D.lit (.int .u64 (vA (max (ka1 (kC l n) (i * 2) 0) (min (ka1 (kC l n) ((i * 2) + 1) 0) z)) z)))) [] 0 [] none, .no, .no, .call [] (uP (D.lit (.int .u64 (vA y z)))) [] 0 [] none, .b true, .no]) ((_) ∧ (_) ∧ (((vA (max (ka1 (kC l n) (i * 2) 0) (min (ka1 (kC l n) ((i * 2) + 1) 0) z)) z) < (vA y z)))) [(1, iV z), (6, iV y), (7, bV true), (10, iV (max (ka1 (kC l n) (i * 2) 0) (min (ka1 (kC l n) ((i * 2) + 1) 0) z))), (12, sV .i64 (kC l n) (kP l n)), (13, uV (kP l n)), (14, uV i), (35, bV true)] [] 2 ⟨(xT (max (ka1 (kC l n) (i * 2) 0) (min (ka1 (kC l n) ((i * 2) + 1) 0) z)) z fU zo), (xT y z zo zo), zo⟩ ?_
    refine zt ?_
    refine uT [.no, .no, .no] True [(1, iV z), (6, iV (max (ka1 (kC l n) (i * 2) 0) (min (ka1 (kC l n) ((i * 2) + 1) 0) z))), (7, bV true), (12, sV .i64 (kC l n) (kP l n)), (13, uV (kP l n)), (14, uV i)] trivial ?_
    refine uT [.w, .no] ((-9223372036854775808) ≤ ((i : Int) + 1) ∧ ((i : Int) + 1) ≤ 9223372036854775807) [(1, iV z), (6, iV (max (ka1 (kC l n) (i * 2) 0) (min (ka1 (kC l n) ((i * 2) + 1) 0) z))), (7, bV true), (12, sV .i64 (kC l n) (kP l n)), (13, uV (kP l n)), (14, iV (↑i + 1))] ⟨by omega, by omega⟩ ?_
    exact kW ⟨(((i + 1) : Nat), ((max (ka1 (kC l n) (i * 2) 0) (min (ka1 (kC l n) ((i * 2) + 1) 0) z)) : Int), (true : Bool)), ⟨uZ, (by first | exact hN.first (kU hl) zo (by show _ = max _ (min _ z); first | (simp only; done) | (simp only; omega) | omega) | exact hN.near (kU hl) zo (by show _ = max _ (min _ z); first | (simp only; done) | (simp only; omega) | omega) zo | exact hN.far (kU hl) zo (by assumption) (by show _ = max _ (min _ z); first | (simp only; done) | (simp only; omega) | omega))⟩⟩ [] (P := (kN z) ∧ (kN (max (ka1 (kC l n) (i * 2) 0) (min (ka1 (kC l n) ((i * 2) + 1) 0) z))) ∧ ((true) = true) ∧ (kM (dI .i64 (kC l n))) ∧ (kJ (kP l n)) ∧ (kN (kP l n : Int)) ∧ (((((i + 1) : Nat) : Int) : Int) = ((i : Int) + 1))) zk ⟨rfl, rfl, dB, rfl, rfl, rfl, vV⟩ (show kP l n - (i + 1) < kP l n - i from aR)
   ·have hx11 : ((0 : Int) ≤ (vA (max (ka1 (kC l n) (i * 2) 0) (min (ka1 (kC l n) ((i * 2) + 1) 0) z)) z)) := gL
    have hx12 : ((0 : Int) ≤ (vA y z)) := gL
    refine kK (qE 5 [.call [] (uP (D.lit (.int .u64 (vA (max (ka1 (kC l n) (i * 2) 0) (min (ka1 (kC l n) ((i * 2) + 1) 0) z)) z)))) [] 0 [] none, .no, .no, .call [] (uP (D.lit (.int .u64 (vA y z)))) [] 0 [] none, .b false, .no]) ((_) ∧ (_) ∧ (¬ ((vA (max (ka1 (kC l n) (i * 2) 0) (min (ka1 (kC l n) ((i * 2) + 1) 0) z)) z) < (vA y z)))) [(1, iV z), (6, iV y), (7, bV true), (10, iV (max (ka1 (kC l n) (i * 2) 0) (min (ka1 (kC l n) ((i * 2) + 1) 0) z))), (12, sV .i64 (kC l n) (kP l n)), (13, uV (kP l n)), (14, uV i), (35, bV false)] [] 2 ⟨(xT (max (ka1 (kC l n) (i * 2) 0) (min (ka1 (kC l n) ((i * 2) + 1) 0) z)) z fU zo), (xT y z zo zo), zo⟩ ?_
    refine q8 ?_
    refine uT [.w, .no] ((-9223372036854775808) ≤ ((i : Int) + 1) ∧ ((i : Int) + 1) ≤ 9223372036854775807) [(1, iV z), (6, iV y), (7, bV true), (12, sV .i64 (kC l n) (kP l n)), (13, uV (kP l n)), (14, iV (↑i + 1))] ⟨by omega, by omega⟩ ?_
    exact kW ⟨(((i + 1) : Nat), (y : Int), (true : Bool)), ⟨uZ, (by first | exact hN.first (kU hl) zo (by show _ = max _ (min _ z); first | (simp only; done) | (simp only; omega) | omega) | exact hN.near (kU hl) zo (by show _ = max _ (min _ z); first | (simp only; done) | (simp only; omega) | omega) zo | exact hN.far (kU hl) zo (by assumption) (by show _ = max _ (min _ z); first | (simp only; done) | (simp only; omega) | omega))⟩⟩ [] (P := (kN z) ∧ (kN y) ∧ ((true) = true) ∧ (kM (dI .i64 (kC l n))) ∧ (kJ (kP l n)) ∧ (kN (kP l n : Int)) ∧ (((((i + 1) : Nat) : Int) : Int) = ((i : Int) + 1))) zk ⟨rfl, rfl, dB, rfl, rfl, rfl, vV⟩ (show kP l n - (i + 1) < kP l n - i from aR)
  ·subst hx5
   refine kK (qE 4 []) True [(1, iV z), (6, iV y), (7, bV false), (10, iV (max (ka1 (kC l n) (i * 2) 0) (min (ka1 (kC l n) ((i * 2) + 1) 0) z))), (12, sV .i64 (kC l n) (kP l n)), (13, uV (kP l n)), (14, uV i), (35, bV true)] [] 2 trivial ?_
   refine zt ?_
   refine uT [.no, .no, .no] True [(1, iV z), (6, iV (max (ka1 (kC l n) (i * 2) 0) (min (ka1 (kC l n) ((i * 2) + 1) 0) z))), (7, bV true), (12, sV .i64 (kC l n) (kP l n)), (13, uV (kP l n)), (14, uV i)] trivial ?_
   refine uT [.w, .no] ((-9223372036854775808) ≤ ((i : Int) + 1) ∧ ((i : Int) + 1) ≤ 9223372036854775807) [(1, iV z), (6, iV (max (ka1 (kC l n) (i * 2) 0) (min (ka1 (kC l n) ((i * 2) + 1) 0) z))), (7, bV true), (12, sV .i64 (kC l n) (kP l n)), (13, uV (kP l n)), (14, iV (↑i + 1))] ⟨by omega, by omega⟩ ?_
   exact kW ⟨(((i + 1) : Nat), ((max (ka1 (kC l n) (i * 2) 0) (min (ka1 (kC l n) ((i * 2) + 1) 0) z)) : Int), (true : Bool)), ⟨uZ, (by first | exact hN.first (kU hl) zo (by show _ = max _ (min _ z); first | (simp only; done) | (simp only; omega) | omega) | exact hN.near (kU hl) zo (by show _ = max _ (min _ z); first | (simp only; done) | (simp only; omega) | omega) zo | exact hN.far (kU hl) zo (by assumption) (by show _ = max _ (min _ z); first | (simp only; done) | (simp only; omega) | omega))⟩⟩ [] (P := (kN z) ∧ (kN (max (ka1 (kC l n) (i * 2) 0) (min (ka1 (kC l n) ((i * 2) + 1) 0) z))) ∧ ((true) = true) ∧ (kM (dI .i64 (kC l n))) ∧ (kJ (kP l n)) ∧ (kN (kP l n : Int)) ∧ (((((i + 1) : Nat) : Int) : Int) = ((i : Int) + 1))) zk ⟨rfl, rfl, dB, rfl, rfl, rfl, vV⟩ (show kP l n - (i + 1) < kP l n - i from aR)
 ·refine kK [.b false] (¬ ((i : Int) < (kP l n : Int))) [(1, iV z), (6, iV y), (7, uP (D.lit (.bool (f)))), (12, sV .i64 (kC l n) (kP l n)), (13, uV (kP l n)), (14, uV i), (15, bV false)] [] 1 zo ?_
  refine AW.seq ?_
  refine zf ?_
  refine AW.exit ?_
  refine kK (qE 4 []) True [(4, iV y), (5, uP (D.lit (.bool (f))))] [] 1 trivial ?_
  obtain ⟨hz1, hz2⟩ := hN.fin (kU hl) zo
  refine AW.ret ?_
  exact kA (.inr rfl) [] (P := (((q9 z (kC l n)) : Int) = y) ∧ ((nrF z (kC l n)) = (f))) zk ⟨l3, hz2⟩
end Go.Proofs.YtcfmjpnffembpaaGreat
