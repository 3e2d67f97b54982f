/- Sets of integers: C. No statement is proved here. -/
import Derived.Test.YtcfmjpnffembpaaGreatZL09B
namespace Go.Proofs.YtcfmjpnffembpaaGreat
open Go.ChangeShapes Go.WideShapes Go.ChangeAt Go.RowKit
open List renaming drop → ka4, drop_drop → ke9, drop_zero → kd0, getD → ka1, length → ka0, length_append → ka6, length_cons → ka8, length_drop → kb0, length_map → kc0, length_nil → kb3, length_replicate → kb4, length_reverse → kc1, length_set → kb8, length_take → ka9, take → ka3
open Nat renaming le_of_ble_eq_true → ka5, mul_one → kc5
set_option linter.unusedVariables false
set_option linter.unusedSimpArgs false
set_option maxHeartbeats 4000000
set_option maxRecDepth 100000
theorem vH {p : Prop} (h : p := by first | omega | assumption | simp) : p := h
theorem aI {p : Prop} (h : p := by first | rfl | omega | assumption | (simp; done) | (simp; omega)) : p := h
theorem bI {p : Prop} (h : p := by first | (rw [ke9]; exact q5 _ _ _ (by first | omega | (simp only [uK, qX, ka6, ka8, kb3, ka9, kb0, kb4, kb8, kc0, kc1, kc5] <;> omega) | rfl)) | (rw [ke9, Nat.add_comm]; exact q5 _ _ _ (by first | omega | (simp only [uK, qX, ka6, ka8, kb3, ka9, kb0, kb4, kb8, kc0, kc1, kc5] <;> omega) | rfl))) : p := h
theorem bH {p : Prop} (h : p := by first | omega | (simp only [uK, qX, ka6, ka8, kb3, ka9, kb0, kb4, kb8, kc0, kc1, kc5] <;> omega) | rfl) : p := h
theorem p6 {p : Prop} (h : p := by simp only [b5, v6, Nat.zero_mul, Nat.one_mul, kd0]) : p := h
theorem j4 {p : Prop} (h : p := by first | assumption | (simp only [uK, ka6, ka8, kb3] <;> omega)) : p := h
theorem bA {p : Prop} (h : p := by first | omega | (show _ < _; simp; omega)) : p := h
theorem p8 {p : Prop} (h : p := by rw [kd0, List.take_of_length_le (by first | omega | (simp only [uK, qX, ka6, ka8, kb3, ka9, kb0, kb4, kb8, kc0, kc1, kc5] <;> omega))]) : p := h
theorem j3 {p : Prop} (h : p := by first | omega | rfl | assumption | (simp; done) | (simp; omega)) : p := h
abbrev u1m (i : Nat) (a : List Int) (n : Nat) (j : Nat) (b : List Int) (m : Nat) : BC := .ds [iD (max (ka1 (ka4 (i * 2) (kB a n)) 0 0) (ka1 (ka4 (j * 2) (kB b m)) 0 0)), iD (min (ka1 (ka4 (i * 2) (kB a n)) 1 0) (ka1 (ka4 (j * 2) (kB b m)) 1 0))]
theorem mX (a b : List Int) (n m : Nat) (ha : ka0 a = n * 2) (hb : ka0 b = m * 2) (h3 : n ≤ 9223372036854775807) (h4 : m ≤ 9223372036854775807) : Fun 117 [.agg [.d (D.sl (dI .i64 a) n)], .agg [.d (D.sl (dI .i64 b) m)]] (kK []) 0 (.e (.agg [.d (D.sl (dI .i64 (nT (kB a n) (kB b m))) (uR (kB a n) (kB b m)))])) (kK []) 0 := by
 refine Fun.mk (n := 69) Tryz.func117 rfl rfl (ka5 rfl) ?_
 intro cx hcx
 refine kL [.no, .no, .no] True [(2, rV 0 0), (3, rV 1 0), (4, rV 2 0)] [(0, some (56, .ds [dl a n])), (1, some (56, .ds [dl b m])), (2, some (56, .ds [k9]))] 3 trivial ?_
 refine kP [.no] True [(2, rV 0 0), (3, rV 1 0), (4, rV 2 0), (5, nV)] trivial ?_
 have hx1 : ((ka0 (kB a n)) = ((kQ a n) * 2)) := kV (zo)
 have hx2 : (((kQ a n) ≤ 64) ∧ ((kQ a n) ≤ n)) := cF
 have hx3 : ((ka0 (kB b m)) = ((kQ b m) * 2)) := kV (zo)
 have hx4 : (((kQ b m) ≤ 64) ∧ ((kQ b m) ≤ m)) := cF
 refine kL [.no, .call [] (sV .i64 (kB a n) (kQ a n)) [] 0 [] none, .no, .call [] (sV .i64 (kB b m) (kQ b m)) [] 0 [] none, .no, .no] ((_) ∧ (_)) [(4, rV 2 0), (5, nV), (6, sV .i64 (kB a n) (kQ a n)), (7, sV .i64 (kB b m) (kQ b m))] [(2, some (56, .ds [k9]))] 3 ⟨(mW a n zo zo), (mW b m zo zo)⟩ ?_
 refine AW.seq ?_
 refine AW.block ?_
 refine AW.adoptS 5 2 77 rfl ?_
 refine kZ 0 hcx (fun (x : {x : Nat × Nat × Nat × List Int // match x with | (i, j, k, o) => (i ≤ kQ a n ∧ j ≤ kQ b m ∧ k ≤ 64) ∧ (IX (kB a n) (kB b m) i j k o) ∧ (ka0 o = k * 2)}) => match x with | ⟨(i, j, k, o), _⟩ => (⟨[(4, rV 2 0), (5, oV 4 0 k 2), (6, sV .i64 (ka4 (i * 2) (kB a n)) ((kQ a n) - i)), (7, sV .i64 (ka4 (j * 2) (kB b m)) ((kQ b m) - j))], [(2, some (56, .ds [k9])), (4, some (77, .ds (dI .i64 o)))], 5⟩ : ES)) (fun x => match x with | ⟨(i, j, k, o), _⟩ => (kQ a n - i) + (kQ b m - j)) ⟨((0 : Nat), (0 : Nat), (0 : Nat), (([] : List Int) : List Int)), ⟨vH, (IX.zero _ _), rfl⟩⟩ [(4, 3)] (P := (kH 0) ∧ (kH 0) ∧ (kH 0) ∧ (((dI .i64 (ka4 0 (kB a n))) : List D) = (dI .i64 (kB a n))) ∧ ((((kQ a n) - 0) : Nat) = (kQ a n)) ∧ (((dI .i64 (ka4 0 (kB b m))) : List D) = (dI .i64 (kB b m))) ∧ ((((kQ b m) - 0) : Nat) = (kQ b m)) ∧ (kM [k9]) ∧ (((dI .i64 ([] : List Int)) : List D) = ([] : List D))) zk ⟨rfl, rfl, rfl, (by first | rfl | with_reducible assumption | exact dp1 (kV ha) | exact dp1 (kV hb)), aI, (by first | rfl | with_reducible assumption | exact dp1 (kV ha) | exact dp1 (kV hb)), aI, rfl, (by first | rfl | with_reducible assumption | exact dp1 (kV ha) | exact dp1 (kV hb))⟩ ?_
 rintro ⟨⟨i, j, k, o⟩, hinv0⟩
 obtain ⟨hi, hX, ho⟩ : (i ≤ kQ a n ∧ j ≤ kQ b m ∧ k ≤ 64) ∧ (IX (kB a n) (kB b m) i j k o) ∧ (ka0 o = k * 2) := hinv0
 refine qT (l := [(4, rV 2 0), (5, oV 4 0 k 2), (6, sV .i64 (ka4 (i * 2) (kB a n)) ((kQ a n) - i)), (7, sV .i64 (ka4 (j * 2) (kB b m)) ((kQ b m) - j))]) (g := [(2, some (56, .ds [k9])), (4, some (77, .ds (dI .i64 o)))]) (nx := 5) rfl rfl rfl ?_
 refine AW.seq ?_
 by_cases hx5 : ((0 : Int) < ((((kQ a n) - i) : Nat) : Int))
 ·by_cases hx6 : ((0 : Int) < ((((kQ b m) - j) : Nat) : Int))
  ·by_cases hx7 : (((k : Nat) : Int) < 64)
   ·refine kL [.no, .no, .b true, .no, .no, .no, .b true, .no, .no, .no, .no, .b true, .no] ((((0 : Int) < ((((kQ a n) - i) : Nat) : Int))) ∧ (((0 : Int) < ((((kQ b m) - j) : Nat) : Int))) ∧ (((k : Int) < 64))) [(4, rV 2 0), (5, oV 4 0 k 2), (6, sV .i64 (ka4 (i * 2) (kB a n)) ((kQ a n) - i)), (7, sV .i64 (ka4 (j * 2) (kB b m)) ((kQ b m) - j)), (25, bV true)] [(2, some (56, .ds [k9])), (4, some (77, .ds (dI .i64 o)))] 5 ⟨zo, zo, zo⟩ ?_
    refine vP ?_
    refine AW.block ?_
    have hx8 : ka1 (ka4 (i * 2) (kB a n)) 0 0 = ka1 (kB a n) (i * 2) 0 := dN
    have hx9 : ka1 (ka4 (i * 2) (kB a n)) 1 0 = ka1 (kB a n) (i * 2 + 1) 0 := dN
    have hx10 : ka1 (ka4 (j * 2) (kB b m)) 0 0 = ka1 (kB b m) (j * 2) 0 := dN
    have hx11 : ka1 (ka4 (j * 2) (kB b m)) 1 0 = ka1 (kB b m) (j * 2 + 1) 0 := dN
    refine kL [.no, .n 0, .no, .d (D.lit (.int .i64 (ka1 (ka4 (i * 2) (kB a n)) 0 0))), .no, .n 0, .no, .d (D.lit (.int .i64 (ka1 (ka4 (j * 2) (kB b m)) 0 0))), .no, .no, .n 0, .no, .d (D.lit (.int .i64 (ka1 (ka4 (i * 2) (kB a n)) 1 0))), .no, .n 0, .no, .d (D.lit (.int .i64 (ka1 (ka4 (j * 2) (kB b m)) 1 0))), .no, .no, .no, .no] ((kO 0) ∧ ((0 : Nat) < ((kQ a n) - i)) ∧ ((ka4 0 (ka4 0 (dI .i64 (ka4 (i * 2) (kB a n)))))[0]? = some (D.lit (.int .i64 (ka1 (ka4 (i * 2) (kB a n)) 0 0)))) ∧ (kO 0) ∧ ((0 : Nat) < ((kQ b m) - j)) ∧ ((ka4 0 (ka4 0 (dI .i64 (ka4 (j * 2) (kB b m)))))[0]? = some (D.lit (.int .i64 (ka1 (ka4 (j * 2) (kB b m)) 0 0)))) ∧ (kO 0) ∧ ((0 : Nat) < ((kQ a n) - i)) ∧ ((ka4 1 (ka4 0 (dI .i64 (ka4 (i * 2) (kB a n)))))[0]? = some (D.lit (.int .i64 (ka1 (ka4 (i * 2) (kB a n)) 1 0)))) ∧ (kO 0) ∧ ((0 : Nat) < ((kQ b m) - j)) ∧ ((ka4 1 (ka4 0 (dI .i64 (ka4 (j * 2) (kB b m)))))[0]? = some (D.lit (.int .i64 (ka1 (ka4 (j * 2) (kB b m)) 1 0))))) [(4, rV 2 0), (5, oV 4 0 k 2), (6, sV .i64 (ka4 (i * 2) (kB a n)) ((kQ a n) - i)), (7, sV .i64 (ka4 (j * 2) (kB b m)) ((kQ b m) - j)), (8, rV 5 0)] [(2, some (56, .ds [k9])), (4, some (77, .ds (dI .i64 o))), (5, some (77, (u1m i a n j b m)))] 6 ⟨rfl, zo, bI, rfl, zo, bI, rfl, zo, bI, rfl, zo, bI⟩ ?_
    refine AW.seq ?_
    by_cases hx12 : ((max (ka1 (ka4 (i * 2) (kB a n)) 0 0) (ka1 (ka4 (j * 2) (kB b m)) 0 0)) ≤ (min (ka1 (ka4 (i * 2) (kB a n)) 1 0) (ka1 (ka4 (j * 2) (kB b m)) 1 0)))
    ·refine kP (qA 4 [.b true]) (((max (ka1 (ka4 (i * 2) (kB a n)) 0 0) (ka1 (ka4 (j * 2) (kB b m)) 0 0)) ≤ (min (ka1 (ka4 (i * 2) (kB a n)) 1 0) (ka1 (ka4 (j * 2) (kB b m)) 1 0)))) [(4, rV 2 0), (5, oV 4 0 k 2), (6, sV .i64 (ka4 (i * 2) (kB a n)) ((kQ a n) - i)), (7, sV .i64 (ka4 (j * 2) (kB b m)) ((kQ b m) - j)), (8, rV 5 0), (49, bV true)] zo ?_
     refine zt ?_
     refine a5 [.no, .no, .no, .ap none (k + 1) (dI .i64 (o ++ ([(max (ka1 (ka4 (i * 2) (kB a n)) 0 0) (ka1 (ka4 (j * 2) (kB b m)) 0 0)), (min (ka1 (ka4 (i * 2) (kB a n)) 1 0) (ka1 (ka4 (j * 2) (kB b m)) 1 0))] : List Int))), .no] (([iD (max (ka1 (ka4 (i * 2) (kB a n)) 0 0) (ka1 (ka4 (j * 2) (kB b m)) 0 0)), iD (min (ka1 (ka4 (i * 2) (kB a n)) 1 0) (ka1 (ka4 (j * 2) (kB b m)) 1 0))].length = 1 * 2) ∧ (((dI .i64 o) : List D).length = k * 2) ∧ ((k + 1) * 16 ≤ 140737488355328) ∧ (k + 1 = (k + 1)) ∧ (((dI .i64 o) : List D) ++ [iD (max (ka1 (ka4 (i * 2) (kB a n)) 0 0) (ka1 (ka4 (j * 2) (kB b m)) 0 0)), iD (min (ka1 (ka4 (i * 2) (kB a n)) 1 0) (ka1 (ka4 (j * 2) (kB b m)) 1 0))] = (dI .i64 (o ++ ([(max (ka1 (ka4 (i * 2) (kB a n)) 0 0) (ka1 (ka4 (j * 2) (kB b m)) 0 0)), (min (ka1 (ka4 (i * 2) (kB a n)) 1 0) (ka1 (ka4 (j * 2) (kB b m)) 1 0))] : List Int))))) [(4, rV 2 0), (5, oV 7 0 (k + 1) 2), (6, sV .i64 (ka4 (i * 2) (kB a n)) ((kQ a n) - i)), (7, sV .i64 (ka4 (j * 2) (kB b m)) ((kQ b m) - j))] [(2, some (56, .ds [k9])), (7, some (77, .ds (dI .i64 (o ++ ([(max (ka1 (ka4 (i * 2) (kB a n)) 0 0) (ka1 (ka4 (j * 2) (kB b m)) 0 0)), (min (ka1 (ka4 (i * 2) (kB a n)) 1 0) (ka1 (ka4 (j * 2) (kB b m)) 1 0))] : List Int)))))] 8 ⟨bH, bH, zo, zo, (yF .i64 o ([(max (ka1 (ka4 (i * 2) (kB a n)) 0 0) (ka1 (ka4 (j * 2) (kB b m)) 0 0)), (min (ka1 (ka4 (i * 2) (kB a n)) 1 0) (ka1 (ka4 (j * 2) (kB b m)) 1 0))] : List Int))⟩ ?_
     by_cases hx13 : ((ka1 (ka4 (i * 2) (kB a n)) 1 0) < (ka1 (ka4 (j * 2) (kB b m)) 1 0))
     ·refine kP [.no, .n 0, .no, .d (D.lit (.int .i64 (ka1 (ka4 (i * 2) (kB a n)) 1 0))), .no, .n 0, .no, .d (D.lit (.int .i64 (ka1 (ka4 (j * 2) (kB b m)) 1 0))), .b true] ((kO 0) ∧ ((0 : Nat) < ((kQ a n) - i)) ∧ ((ka4 1 (ka4 0 (dI .i64 (ka4 (i * 2) (kB a n)))))[0]? = some (D.lit (.int .i64 (ka1 (ka4 (i * 2) (kB a n)) 1 0)))) ∧ (kO 0) ∧ ((0 : Nat) < ((kQ b m) - j)) ∧ ((ka4 1 (ka4 0 (dI .i64 (ka4 (j * 2) (kB b m)))))[0]? = some (D.lit (.int .i64 (ka1 (ka4 (j * 2) (kB b m)) 1 0)))) ∧ (((ka1 (ka4 (i * 2) (kB a n)) 1 0) < (ka1 (ka4 (j * 2) (kB b m)) 1 0)))) [(4, rV 2 0), (5, oV 7 0 (k + 1) 2), (6, sV .i64 (ka4 (i * 2) (kB a n)) ((kQ a n) - i)), (7, sV .i64 (ka4 (j * 2) (kB b m)) ((kQ b m) - j)), (62, bV true)] ⟨rfl, zo, bI, rfl, zo, bI, zo⟩ ?_
      refine zt ?_
      refine uS [.no, .sls 1 ((kQ a n) - i) (((kQ a n) - i) - 1) (dI .i64 (ka3 ((((kQ a n) - i) - 1) * 2) (ka4 2 (ka4 (i * 2) (kB a n))))), .no] ((kO 1) ∧ (((kQ a n) - i) = ((kQ a n) - i)) ∧ ((1 : Nat) ≤ ((kQ a n) - i)) ∧ (((kQ a n) - i) ≤ ((kQ a n) - i)) ∧ (((kQ a n) - i) - 1 = (((kQ a n) - i) - 1)) ∧ (ka3 ((((kQ a n) - i) - 1) * 2) (ka4 (1 * 2) (dI .i64 (ka4 (i * 2) (kB a n)))) = (dI .i64 (ka3 ((((kQ a n) - i) - 1) * 2) (ka4 2 (ka4 (i * 2) (kB a n))))))) [(4, rV 2 0), (5, oV 7 0 (k + 1) 2), (6, sV .i64 (ka3 ((((kQ a n) - i) - 1) * 2) (ka4 2 (ka4 (i * 2) (kB a n)))) (((kQ a n) - i) - 1)), (7, sV .i64 (ka4 (j * 2) (kB b m)) ((kQ b m) - j))] ⟨rfl, rfl, zo, zo, zo, p6⟩ ?_
      exact kW ⟨(((i + 1) : Nat), (j : Nat), ((k + 1) : Nat), ((o ++ ([(max (ka1 (ka4 (i * 2) (kB a n)) 0 0) (ka1 (ka4 (j * 2) (kB b m)) 0 0)), (min (ka1 (ka4 (i * 2) (kB a n)) 1 0) (ka1 (ka4 (j * 2) (kB b m)) 1 0))] : List Int)) : List Int)), ⟨vH, (by first | exact hX.ly (kV ha) (kV hb) (uL ha) (uL hb) zo zo zo zo zo zo | exact hX.ln (kV ha) (kV hb) (uL ha) (uL hb) zo zo zo zo | exact hX.ry (kV ha) (kV hb) (uL ha) (uL hb) zo zo zo zo zo zo | exact hX.rn (kV ha) (kV hb) (uL ha) (uL hb) zo zo zo zo), j4⟩⟩ [(4, 7)] (P := (kH 0) ∧ (kH 0) ∧ (kH (k + 1)) ∧ (((dI .i64 (ka4 ((i + 1) * 2) (kB a n))) : List D) = (dI .i64 (ka3 ((((kQ a n) - i) - 1) * 2) (ka4 2 (ka4 (i * 2) (kB a n)))))) ∧ ((((kQ a n) - (i + 1)) : Nat) = (((kQ a n) - i) - 1)) ∧ (kM (dI .i64 (ka4 (j * 2) (kB b m)))) ∧ (kH ((kQ b m) - j)) ∧ (kM [k9]) ∧ (kM (dI .i64 (o ++ ([(max (ka1 (ka4 (i * 2) (kB a n)) 0 0) (ka1 (ka4 (j * 2) (kB b m)) 0 0)), (min (ka1 (ka4 (i * 2) (kB a n)) 1 0) (ka1 (ka4 (j * 2) (kB b m)) 1 0))] : List Int))))) zk ⟨rfl, rfl, rfl, (by first | rfl | with_reducible assumption | exact dp1 (kV ha) | exact dp1 (kV hb)), aI, rfl, rfl, rfl, rfl⟩ (show (kQ a n - (i + 1)) + (kQ b m - j) < (kQ a n - i) + (kQ b m - j) from bA)
     ·refine kP [.no, .n 0, .no, .d (D.lit (.int .i64 (ka1 (ka4 (i * 2) (kB a n)) 1 0))), .no, .n 0, .no, .d (D.lit (.int .i64 (ka1 (ka4 (j * 2) (kB b m)) 1 0))), .b false] ((kO 0) ∧ ((0 : Nat) < ((kQ a n) - i)) ∧ ((ka4 1 (ka4 0 (dI .i64 (ka4 (i * 2) (kB a n)))))[0]? = some (D.lit (.int .i64 (ka1 (ka4 (i * 2) (kB a n)) 1 0)))) ∧ (kO 0) ∧ ((0 : Nat) < ((kQ b m) - j)) ∧ ((ka4 1 (ka4 0 (dI .i64 (ka4 (j * 2) (kB b m)))))[0]? = some (D.lit (.int .i64 (ka1 (ka4 (j * 2) (kB b m)) 1 0)))) ∧ (¬ ((ka1 (ka4 (i * 2) (kB a n)) 1 0) < (ka1 (ka4 (j * 2) (kB b m)) 1 0)))) [(4, rV 2 0), (5, oV 7 0 (k + 1) 2), (6, sV .i64 (ka4 (i * 2) (kB a n)) ((kQ a n) - i)), (7, sV .i64 (ka4 (j * 2) (kB b m)) ((kQ b m) - j)), (62, bV false)] ⟨rfl, zo, bI, rfl, zo, bI, zo⟩ ?_
      refine zf ?_
      refine uS [.no, .sls 1 ((kQ b m) - j) (((kQ b m) - j) - 1) (dI .i64 (ka3 ((((kQ b m) - j) - 1) * 2) (ka4 2 (ka4 (j * 2) (kB b m))))), .no] ((kO 1) ∧ (((kQ b m) - j) = ((kQ b m) - j)) ∧ ((1 : Nat) ≤ ((kQ b m) - j)) ∧ (((kQ b m) - j) ≤ ((kQ b m) - j)) ∧ (((kQ b m) - j) - 1 = (((kQ b m) - j) - 1)) ∧ (ka3 ((((kQ b m) - j) - 1) * 2) (ka4 (1 * 2) (dI .i64 (ka4 (j * 2) (kB b m)))) = (dI .i64 (ka3 ((((kQ b m) - j) - 1) * 2) (ka4 2 (ka4 (j * 2) (kB b m))))))) [(4, rV 2 0), (5, oV 7 0 (k + 1) 2), (6, sV .i64 (ka4 (i * 2) (kB a n)) ((kQ a n) - i)), (7, sV .i64 (ka3 ((((kQ b m) - j) - 1) * 2) (ka4 2 (ka4 (j * 2) (kB b m)))) (((kQ b m) - j) - 1))] ⟨rfl, rfl, zo, zo, zo, p6⟩ ?_
      exact kW ⟨((i : Nat), ((j + 1) : Nat), ((k + 1) : Nat), ((o ++ ([(max (ka1 (ka4 (i * 2) (kB a n)) 0 0) (ka1 (ka4 (j * 2) (kB b m)) 0 0)), (min (ka1 (ka4 (i * 2) (kB a n)) 1 0) (ka1 (ka4 (j * 2) (kB b m)) 1 0))] : List Int)) : List Int)), ⟨vH, (by first | exact hX.ly (kV ha) (kV hb) (uL ha) (uL hb) zo zo zo zo zo zo | exact hX.ln (kV ha) (kV hb) (uL ha) (uL hb) zo zo zo zo | exact hX.ry (kV ha) (kV hb) (uL ha) (uL hb) zo zo zo zo zo zo | exact hX.rn (kV ha) (kV hb) (uL ha) (uL hb) zo zo zo zo), j4⟩⟩ [(4, 7)] (P := (kH 0) ∧ (kH 0) ∧ (kH (k + 1)) ∧ (kM (dI .i64 (ka4 (i * 2) (kB a n)))) ∧ (kH ((kQ a n) - i)) ∧ (((dI .i64 (ka4 ((j + 1) * 2) (kB b m))) : List D) = (dI .i64 (ka3 ((((kQ b m) - j) - 1) * 2) (ka4 2 (ka4 (j * 2) (kB b m)))))) ∧ ((((kQ b m) - (j + 1)) : Nat) = (((kQ b m) - j) - 1)) ∧ (kM [k9]) ∧ (kM (dI .i64 (o ++ ([(max (ka1 (ka4 (i * 2) (kB a n)) 0 0) (ka1 (ka4 (j * 2) (kB b m)) 0 0)), (min (ka1 (ka4 (i * 2) (kB a n)) 1 0) (ka1 (ka4 (j * 2) (kB b m)) 1 0))] : List Int))))) zk ⟨rfl, rfl, rfl, rfl, rfl, (by first | rfl | with_reducible assumption | exact dp1 (kV ha) | exact dp1 (kV hb)), aI, rfl, rfl⟩ (show (kQ a n - i) + (kQ b m - (j + 1)) < (kQ a n - i) + (kQ b m - j) from bA)
    ·refine kP (qA 4 [.b false]) (¬ ((max (ka1 (ka4 (i * 2) (kB a n)) 0 0) (ka1 (ka4 (j * 2) (kB b m)) 0 0)) ≤ (min (ka1 (ka4 (i * 2) (kB a n)) 1 0) (ka1 (ka4 (j * 2) (kB b m)) 1 0)))) [(4, rV 2 0), (5, oV 4 0 k 2), (6, sV .i64 (ka4 (i * 2) (kB a n)) ((kQ a n) - i)), (7, sV .i64 (ka4 (j * 2) (kB b m)) ((kQ b m) - j)), (8, rV 5 0), (49, bV false)] zo ?_
     refine uB ?_
     by_cases hx14 : ((ka1 (ka4 (i * 2) (kB a n)) 1 0) < (ka1 (ka4 (j * 2) (kB b m)) 1 0))
     ·refine kL [.no, .n 0, .no, .d (D.lit (.int .i64 (ka1 (ka4 (i * 2) (kB a n)) 1 0))), .no, .n 0, .no, .d (D.lit (.int .i64 (ka1 (ka4 (j * 2) (kB b m)) 1 0))), .b true] ((kO 0) ∧ ((0 : Nat) < ((kQ a n) - i)) ∧ ((ka4 1 (ka4 0 (dI .i64 (ka4 (i * 2) (kB a n)))))[0]? = some (D.lit (.int .i64 (ka1 (ka4 (i * 2) (kB a n)) 1 0)))) ∧ (kO 0) ∧ ((0 : Nat) < ((kQ b m) - j)) ∧ ((ka4 1 (ka4 0 (dI .i64 (ka4 (j * 2) (kB b m)))))[0]? = some (D.lit (.int .i64 (ka1 (ka4 (j * 2) (kB b m)) 1 0)))) ∧ (((ka1 (ka4 (i * 2) (kB a n)) 1 0) < (ka1 (ka4 (j * 2) (kB b m)) 1 0)))) [(4, rV 2 0), (5, oV 4 0 k 2), (6, sV .i64 (ka4 (i * 2) (kB a n)) ((kQ a n) - i)), (7, sV .i64 (ka4 (j * 2) (kB b m)) ((kQ b m) - j)), (62, bV true)] [(2, some (56, .ds [k9])), (4, some (77, .ds (dI .i64 o)))] 6 ⟨rfl, zo, bI, rfl, zo, bI, zo⟩ ?_
      refine zt ?_
      refine uS [.no, .sls 1 ((kQ a n) - i) (((kQ a n) - i) - 1) (dI .i64 (ka3 ((((kQ a n) - i) - 1) * 2) (ka4 2 (ka4 (i * 2) (kB a n))))), .no] ((kO 1) ∧ (((kQ a n) - i) = ((kQ a n) - i)) ∧ ((1 : Nat) ≤ ((kQ a n) - i)) ∧ (((kQ a n) - i) ≤ ((kQ a n) - i)) ∧ (((kQ a n) - i) - 1 = (((kQ a n) - i) - 1)) ∧ (ka3 ((((kQ a n) - i) - 1) * 2) (ka4 (1 * 2) (dI .i64 (ka4 (i * 2) (kB a n)))) = (dI .i64 (ka3 ((((kQ a n) - i) - 1) * 2) (ka4 2 (ka4 (i * 2) (kB a n))))))) [(4, rV 2 0), (5, oV 4 0 k 2), (6, sV .i64 (ka3 ((((kQ a n) - i) - 1) * 2) (ka4 2 (ka4 (i * 2) (kB a n)))) (((kQ a n) - i) - 1)), (7, sV .i64 (ka4 (j * 2) (kB b m)) ((kQ b m) - j))] ⟨rfl, rfl, zo, zo, zo, p6⟩ ?_
      exact kW ⟨(((i + 1) : Nat), (j : Nat), (k : Nat), (o : List Int)), ⟨vH, (by first | exact hX.ly (kV ha) (kV hb) (uL ha) (uL hb) zo zo zo zo zo zo | exact hX.ln (kV ha) (kV hb) (uL ha) (uL hb) zo zo zo zo | exact hX.ry (kV ha) (kV hb) (uL ha) (uL hb) zo zo zo zo zo zo | exact hX.rn (kV ha) (kV hb) (uL ha) (uL hb) zo zo zo zo), j4⟩⟩ [] (P := (kH 0) ∧ (kH 0) ∧ (kH k) ∧ (((dI .i64 (ka4 ((i + 1) * 2) (kB a n))) : List D) = (dI .i64 (ka3 ((((kQ a n) - i) - 1) * 2) (ka4 2 (ka4 (i * 2) (kB a n)))))) ∧ ((((kQ a n) - (i + 1)) : Nat) = (((kQ a n) - i) - 1)) ∧ (kM (dI .i64 (ka4 (j * 2) (kB b m)))) ∧ (kH ((kQ b m) - j)) ∧ (kM [k9]) ∧ (kM (dI .i64 o))) zk ⟨rfl, rfl, rfl, (by first | rfl | with_reducible assumption | exact dp1 (kV ha) | exact dp1 (kV hb)), aI, rfl, rfl, rfl, rfl⟩ (show (kQ a n - (i + 1)) + (kQ b m - j) < (kQ a n - i) + (kQ b m - j) from bA)
     ·refine kL [.no, .n 0, .no, .d (D.lit (.int .i64 (ka1 (ka4 (i * 2) (kB a n)) 1 0))), .no, .n 0, .no, .d (D.lit (.int .i64 (ka1 (ka4 (j * 2) (kB b m)) 1 0))), .b false] ((kO 0) ∧ ((0 : Nat) < ((kQ a n) - i)) ∧ ((ka4 1 (ka4 0 (dI .i64 (ka4 (i * 2) (kB a n)))))[0]? = some (D.lit (.int .i64 (ka1 (ka4 (i * 2) (kB a n)) 1 0)))) ∧ (kO 0) ∧ ((0 : Nat) < ((kQ b m) - j)) ∧ ((ka4 1 (ka4 0 (dI .i64 (ka4 (j * 2) (kB b m)))))[0]? = some (D.lit (.int .i64 (ka1 (ka4 (j * 2) (kB b m)) 1 0)))) ∧ (¬ ((ka1 (ka4 (i * 2) (kB a n)) 1 0) < (ka1 (ka4 (j * 2) (kB b m)) 1 0)))) [(4, rV 2 0), (5, oV 4 0 k 2), (6, sV .i64 (ka4 (i * 2) (kB a n)) ((kQ a n) - i)), (7, sV .i64 (ka4 (j * 2) (kB b m)) ((kQ b m) - j)), (62, bV false)] [(2, some (56, .ds [k9])), (4, some (77, .ds (dI .i64 o)))] 6 ⟨rfl, zo, bI, rfl, zo, bI, zo⟩ ?_
      refine zf ?_
      refine uS [.no, .sls 1 ((kQ b m) - j) (((kQ b m) - j) - 1) (dI .i64 (ka3 ((((kQ b m) - j) - 1) * 2) (ka4 2 (ka4 (j * 2) (kB b m))))), .no] ((kO 1) ∧ (((kQ b m) - j) = ((kQ b m) - j)) ∧ ((1 : Nat) ≤ ((kQ b m) - j)) ∧ (((kQ b m) - j) ≤ ((kQ b m) - j)) ∧ (((kQ b m) - j) - 1 = (((kQ b m) - j) - 1)) ∧ (ka3 ((((kQ b m) - j) - 1) * 2) (ka4 (1 * 2) (dI .i64 (ka4 (j * 2) (kB b m)))) = (dI .i64 (ka3 ((((kQ b m) - j) - 1) * 2) (ka4 2 (ka4 (j * 2) (kB b m))))))) [(4, rV 2 0), (5, oV 4 0 k 2), (6, sV .i64 (ka4 (i * 2) (kB a n)) ((kQ a n) - i)), (7, sV .i64 (ka3 ((((kQ b m) - j) - 1) * 2) (ka4 2 (ka4 (j * 2) (kB b m)))) (((kQ b m) - j) - 1))] ⟨rfl, rfl, zo, zo, zo, p6⟩ ?_
      exact kW ⟨((i : Nat), ((j + 1) : Nat), (k : Nat), (o : List Int)), ⟨vH, (by first | exact hX.ly (kV ha) (kV hb) (uL ha) (uL hb) zo zo zo zo zo zo | exact hX.ln (kV ha) (kV hb) (uL ha) (uL hb) zo zo zo zo | exact hX.ry (kV ha) (kV hb) (uL ha) (uL hb) zo zo zo zo zo zo | exact hX.rn (kV ha) (kV hb) (uL ha) (uL hb) zo zo zo zo), j4⟩⟩ [] (P := (kH 0) ∧ (kH 0) ∧ (kH k) ∧ (kM (dI .i64 (ka4 (i * 2) (kB a n)))) ∧ (kH ((kQ a n) - i)) ∧ (((dI .i64 (ka4 ((j + 1) * 2) (kB b m))) : List D) = (dI .i64 (ka3 ((((kQ b m) - j) - 1) * 2) (ka4 2 (ka4 (j * 2) (kB b m)))))) ∧ ((((kQ b m) - (j + 1)) : Nat) = (((kQ b m) - j) - 1)) ∧ (kM [k9]) ∧ (kM (dI .i64 o))) zk ⟨rfl, rfl, rfl, rfl, rfl, (by first | rfl | with_reducible assumption | exact dp1 (kV ha) | exact dp1 (kV hb)), aI, rfl, rfl⟩ (show (kQ a n - i) + (kQ b m - (j + 1)) < (kQ a n - i) + (kQ b m - j) from bA)
   ·refine kL [.no, .no, .b true, .no, .no, .no, .b true, .no, .no, .no, .no, .b false, .no] ((((0 : Int) < ((((kQ a n) - i) : Nat) : Int))) ∧ (((0 : Int) < ((((kQ b m) - j) : Nat) : Int))) ∧ (¬ ((k : Int) < 64))) [(4, rV 2 0), (5, oV 4 0 k 2), (6, sV .i64 (ka4 (i * 2) (kB a n)) ((kQ a n) - i)), (7, sV .i64 (ka4 (j * 2) (kB b m)) ((kQ b m) - j)), (25, bV false)] [(2, some (56, .ds [k9])), (4, some (77, .ds (dI .i64 o)))] 5 ⟨zo, zo, zo⟩ ?_
    refine zf ?_
    refine AW.exit ?_
    refine kL [.no, .no, .no] True [(4, rV 2 0)] [(2, some (56, .cs [.own 4 0 k 2 true])), (4, some (77, .ds (dI .i64 o)))] 5 trivial ?_
    obtain ⟨hz1, hz2⟩ := hX.fin (kV ha) (kV hb) zo zo
    refine AW.freeze 4 (l' := [(4, rV 2 0)]) (g' := [(2, some (56, .ds [dl o k]))]) rfl (FzS.cons rfl (.same _) FzS.nil) (FzG.to (bc := .cs [.own 4 0 k 2 true]) rfl (by rfl) (FzL.cons (@FzC.own 4 ((dI .i64 o) : List D) 0 k 2 true ((dI .i64 o) : List D) p8 bH) FzL.nil) FzG.nil) ?_
    refine AW.ret ?_
    exact kD (.inr rfl) [] (P := (((dI .i64 (nT (kB a n) (kB b m))) : List D) = (dI .i64 o)) ∧ (((uR (kB a n) (kB b m)) : Nat) = k)) zk ⟨(by first | exact congrArg _ hz1.symm | rfl), j3⟩
  ·refine kL [.no, .no, .b true, .no, .no, .no, .b false, .no, .no, .no] ((((0 : Int) < ((((kQ a n) - i) : Nat) : Int))) ∧ (¬ ((0 : Int) < ((((kQ b m) - j) : Nat) : Int)))) [(4, rV 2 0), (5, oV 4 0 k 2), (6, sV .i64 (ka4 (i * 2) (kB a n)) ((kQ a n) - i)), (7, sV .i64 (ka4 (j * 2) (kB b m)) ((kQ b m) - j)), (25, bV false)] [(2, some (56, .ds [k9])), (4, some (77, .ds (dI .i64 o)))] 5 ⟨zo, zo⟩ ?_
   refine zf ?_
   refine AW.exit ?_
   refine kL [.no, .no, .no] True [(4, rV 2 0)] [(2, some (56, .cs [.own 4 0 k 2 true])), (4, some (77, .ds (dI .i64 o)))] 5 trivial ?_
   obtain ⟨hz1, hz2⟩ := hX.fin (kV ha) (kV hb) zo zo
   refine AW.freeze 4 (l' := [(4, rV 2 0)]) (g' := [(2, some (56, .ds [dl o k]))]) rfl (FzS.cons rfl (.same _) FzS.nil) (FzG.to (bc := .cs [.own 4 0 k 2 true]) rfl (by rfl) (FzL.cons (@FzC.own 4 ((dI .i64 o) : List D) 0 k 2 true ((dI .i64 o) : List D) p8 bH) FzL.nil) FzG.nil) ?_
   refine AW.ret ?_
   exact kD (.inr rfl) [] (P := (((dI .i64 (nT (kB a n) (kB b m))) : List D) = (dI .i64 o)) ∧ (((uR (kB a n) (kB b m)) : Nat) = k)) zk ⟨(by first | exact congrArg _ hz1.symm | rfl), j3⟩
 ·refine kL (.no :: .no :: .b false :: qA 4 []) (¬ ((0 : Int) < ((((kQ a n) - i) : Nat) : Int))) [(4, rV 2 0), (5, oV 4 0 k 2), (6, sV .i64 (ka4 (i * 2) (kB a n)) ((kQ a n) - i)), (7, sV .i64 (ka4 (j * 2) (kB b m)) ((kQ b m) - j)), (25, bV false)] [(2, some (56, .ds [k9])), (4, some (77, .ds (dI .i64 o)))] 5 zo ?_
  refine zf ?_
  refine AW.exit ?_
  refine kL [.no, .no, .no] True [(4, rV 2 0)] [(2, some (56, .cs [.own 4 0 k 2 true])), (4, some (77, .ds (dI .i64 o)))] 5 trivial ?_
  obtain ⟨hz1, hz2⟩ := hX.fin (kV ha) (kV hb) zo zo
  refine AW.freeze 4 (l' := [(4, rV 2 0)]) (g' := [(2, some (56, .ds [dl o k]))]) rfl (FzS.cons rfl (.same _) FzS.nil) (FzG.to (bc := .cs [.own 4 0 k 2 true]) rfl (by rfl) (FzL.cons (@FzC.own 4 ((dI .i64 o) : List D) 0 k 2 true ((dI .i64 o) : List D) p8 bH) FzL.nil) FzG.nil) ?_
  refine AW.ret ?_
  exact kD (.inr rfl) [] (P := (((dI .i64 (nT (kB a n) (kB b m))) : List D) = (dI .i64 o)) ∧ (((uR (kB a n) (kB b m)) : Nat) = k)) zk ⟨(by first | exact congrArg _ hz1.symm | rfl), j3⟩
abbrev eU (a : List Int) (n : Nat) (i : Nat) : BC := .ds [iD (ka1 (kB a n) (i * 2) 0), iD (ka1 (kB a n) ((i * 2) + 1) 0)]
theorem k2d (a b : List Int) (n m : Nat) (ha : ka0 a = n * 2) (hb : ka0 b = m * 2) (h3 : n ≤ 9223372036854775807) (h4 : m ≤ 9223372036854775807) : Fun 132 [.agg [.d (D.sl (dI .i64 a) n)], .agg [.d (D.sl (dI .i64 b) m)]] (kK []) 0 (sV .i64 (uN (kB a n) (kB b m)) (qD (kB a n) (kB b m))) (kK []) 0 := by
 refine Fun.mk (n := 48) Tryz.func132 rfl rfl (ka5 rfl) ?_
 intro cx hcx
 refine kL [.no, .no, .no] True [(2, rV 0 0), (3, rV 1 0)] [(0, some (56, .ds [dl a n])), (1, some (56, .ds [dl b m]))] 2 trivial ?_
 refine kP [.no] True [(2, rV 0 0), (3, rV 1 0), (5, nV)] trivial ?_
 refine AW.seq ?_
 have hx1 : ((ka0 (kB a n)) = ((kQ a n) * 2)) := kV (zo)
 have hx2 : (((kQ a n) ≤ 64) ∧ ((kQ a n) ≤ n)) := cF
 refine kL [.no, .call [] (sV .i64 (kB a n) (kQ a n)) [] 0 [] none, .no, .no] _ [(3, rV 1 0), (5, nV), (13, sV .i64 (kB a n) (kQ a n)), (14, uV (kQ a n)), (15, iV 0)] [(1, some (56, .ds [dl b m]))] 2 (n8 a n zo zo) ?_
 refine AW.block ?_
 refine AW.adoptS 5 2 77 rfl ?_
 refine kZ 0 hcx (fun (x : {x : Nat × Nat × List Int // match x with | (i, k, o) => (i ≤ kQ a n ∧ k ≤ i * 64) ∧ (AL (kB a n) (kB b m) i k o) ∧ (ka0 o = k * 2)}) => match x with | ⟨(i, k, o), _⟩ => (⟨[(3, rV 1 0), (5, oV 3 0 k 2), (13, sV .i64 (kB a n) (kQ a n)), (14, uV (kQ a n)), (15, uV i)], [(1, some (56, .ds [dl b m])), (3, some (77, .ds (dI .i64 o)))], 4⟩ : ES)) (fun x => match x with | ⟨(i, k, o), _⟩ => kQ a n - i) ⟨((0 : Nat), (0 : Nat), (([] : List Int) : List Int)), ⟨vH, (AL.zero _ _), rfl⟩⟩ [(3, 2)] (P := (kH 0) ∧ (kH 0) ∧ (kH 0) ∧ (kM (dI .i64 (kB a n))) ∧ (kH (kQ a n)) ∧ (kO (kQ a n : Int)) ∧ (kO 0) ∧ (kM [dl b m]) ∧ (((dI .i64 ([] : List Int)) : List D) = ([] : List D))) zk ⟨rfl, rfl, rfl, rfl, rfl, rfl, rfl, rfl, (by first | rfl | with_reducible assumption)⟩ ?_
 rintro ⟨⟨i, k, o⟩, hinv0⟩
 obtain ⟨hi, hA, ho⟩ : (i ≤ kQ a n ∧ k ≤ i * 64) ∧ (AL (kB a n) (kB b m) i k o) ∧ (ka0 o = k * 2) := hinv0
 refine qT (l := [(3, rV 1 0), (5, oV 3 0 k 2), (13, sV .i64 (kB a n) (kQ a n)), (14, uV (kQ a n)), (15, uV i)]) (g := [(1, some (56, .ds [dl b m])), (3, some (77, .ds (dI .i64 o)))]) (nx := 4) rfl rfl rfl ?_
 by_cases hx3 : (((i : Nat) : Int) < (((kQ a n) : Nat) : Int))
 ·refine kL [.b true] (((i : Int) < (kQ a n : Int))) [(3, rV 1 0), (5, oV 3 0 k 2), (13, sV .i64 (kB a n) (kQ a n)), (14, uV (kQ a n)), (15, uV i), (16, bV true)] [(1, some (56, .ds [dl b m])), (3, some (77, .ds (dI .i64 o)))] 4 zo ?_
  refine AW.seq ?_
  refine vP ?_
  refine AW.seq ?_
  refine AW.block ?_
  refine kL [.n i, .ds [iD (ka1 (kB a n) (i * 2) 0), iD (ka1 (kB a n) ((i * 2) + 1) 0)], .no, .no] ((kO (i : Int)) ∧ (i < (kQ a n)) ∧ (ka3 2 (ka4 (i * 2) (dI .i64 (kB a n))) = [iD (ka1 (kB a n) (i * 2) 0), iD (ka1 (kB a n) ((i * 2) + 1) 0)]) ∧ (([iD (ka1 (kB a n) (i * 2) 0), iD (ka1 (kB a n) ((i * 2) + 1) 0)] : List D).length = 2)) [(3, rV 1 0), (5, oV 3 0 k 2), (7, rV 4 0), (13, sV .i64 (kB a n) (kQ a n)), (14, uV (kQ a n)), (15, uV i)] [(1, some (56, .ds [dl b m])), (3, some (77, .ds (dI .i64 o))), (4, some (77, (eU a n i)))] 5 ⟨rfl, zo, (bN .i64 (kB a n) (i * 2) 2 bH), rfl⟩ ?_
  have hx4 : ((ka0 (kB b m)) = ((kQ b m) * 2)) := kV (zo)
  have hx5 : (((kQ b m) ≤ 64) ∧ ((kQ b m) ≤ m)) := cF
  refine kP [.no, .call [] (sV .i64 (kB b m) (kQ b m)) [] 0 [] none, .no, .no] _ [(3, rV 1 0), (5, oV 3 0 k 2), (7, rV 4 0), (13, sV .i64 (kB a n) (kQ a n)), (14, uV (kQ a n)), (15, uV i), (20, sV .i64 (kB b m) (kQ b m)), (21, uV (kQ b m)), (22, iV 0)] (n8 b m zo zo) ?_
  refine AW.block ?_
  refine kZ 0 hcx (fun (x : {x : Nat × Nat × List Int // match x with | (j, k2, q) => (j ≤ kQ b m ∧ k2 ≤ i * 64 + j) ∧ (AJ (kB a n) (kB b m) i j k2 q) ∧ (ka0 q = k2 * 2)}) => match x with | ⟨(j, k2, q), _⟩ => (⟨[(3, rV 1 0), (5, oV 5 0 k2 2), (7, rV 4 0), (13, sV .i64 (kB a n) (kQ a n)), (14, uV (kQ a n)), (15, uV i), (20, sV .i64 (kB b m) (kQ b m)), (21, uV (kQ b m)), (22, uV j)], [(1, some (56, .ds [dl b m])), (5, some (77, .ds (dI .i64 q))), (4, some (77, (eU a n i)))], 6⟩ : ES)) (fun x => match x with | ⟨(j, k2, q), _⟩ => kQ b m - j) ⟨((0 : Nat), (k : Nat), (o : List Int)), ⟨vH, hA.in, zo⟩⟩ [(5, 3)] (P := (kH 0) ∧ (kH 0) ∧ (kH k) ∧ (kH 0) ∧ (kM (dI .i64 (kB a n))) ∧ (kH (kQ a n)) ∧ (kO (kQ a n : Int)) ∧ (kO (i : Int)) ∧ (kM (dI .i64 (kB b m))) ∧ (kH (kQ b m)) ∧ (kO (kQ b m : Int)) ∧ (kO 0) ∧ (kM [dl b m]) ∧ (kM (dI .i64 o)) ∧ (kM [iD (ka1 (kB a n) (i * 2) 0), iD (ka1 (kB a n) ((i * 2) + 1) 0)])) zk ⟨rfl, rfl, rfl, rfl, rfl, rfl, rfl, rfl, rfl, rfl, rfl, rfl, rfl, rfl, rfl⟩ ?_
  rintro ⟨⟨j, k2, q⟩, hinv1⟩
  obtain ⟨hj, hJ, hq⟩ : (j ≤ kQ b m ∧ k2 ≤ i * 64 + j) ∧ (AJ (kB a n) (kB b m) i j k2 q) ∧ (ka0 q = k2 * 2) := hinv1
  refine qT (l := [(3, rV 1 0), (5, oV 5 0 k2 2), (7, rV 4 0), (13, sV .i64 (kB a n) (kQ a n)), (14, uV (kQ a n)), (15, uV i), (20, sV .i64 (kB b m) (kQ b m)), (21, uV (kQ b m)), (22, uV j)]) (g := [(1, some (56, .ds [dl b m])), (5, some (77, .ds (dI .i64 q))), (4, some (77, (eU a n i)))]) (nx := 6) rfl rfl rfl ?_
  by_cases hx6 : (((j : Nat) : Int) < (((kQ b m) : Nat) : Int))
  ·refine kL [.b true] (((j : Int) < (kQ b m : Int))) [(3, rV 1 0), (5, oV 5 0 k2 2), (7, rV 4 0), (13, sV .i64 (kB a n) (kQ a n)), (14, uV (kQ a n)), (15, uV i), (20, sV .i64 (kB b m) (kQ b m)), (21, uV (kQ b m)), (22, uV j), (23, bV true)] [(1, some (56, .ds [dl b m])), (4, some (77, (eU a n i))), (5, some (77, .ds (dI .i64 q)))] 6 zo ?_
   refine AW.seq ?_
   refine vP ?_
   refine AW.seq ?_
   refine AW.block ?_
   refine kL [.n j, .ds [iD (ka1 (kB b m) (j * 2) 0), iD (ka1 (kB b m) ((j * 2) + 1) 0)], .no, .no] ((kO (j : Int)) ∧ (j < (kQ b m)) ∧ (ka3 2 (ka4 (j * 2) (dI .i64 (kB b m))) = [iD (ka1 (kB b m) (j * 2) 0), iD (ka1 (kB b m) ((j * 2) + 1) 0)]) ∧ (([iD (ka1 (kB b m) (j * 2) 0), iD (ka1 (kB b m) ((j * 2) + 1) 0)] : List D).length = 2)) [(3, rV 1 0), (5, oV 5 0 k2 2), (7, rV 4 0), (9, rV 6 0), (13, sV .i64 (kB a n) (kQ a n)), (14, uV (kQ a n)), (15, uV i), (20, sV .i64 (kB b m) (kQ b m)), (21, uV (kQ b m)), (22, uV j)] [(1, some (56, .ds [dl b m])), (4, some (77, (eU a n i))), (5, some (77, .ds (dI .i64 q))), (6, some (77, .ds [iD (ka1 (kB b m) (j * 2) 0), iD (ka1 (kB b m) ((j * 2) + 1) 0)]))] 7 ⟨rfl, zo, (bN .i64 (kB b m) (j * 2) 2 bH), rfl⟩ ?_
   refine kL (qA 12 []) True [(3, rV 1 0), (5, oV 5 0 k2 2), (7, rV 4 0), (10, iV (max (ka1 (kB a n) (i * 2) 0) (ka1 (kB b m) (j * 2) 0))), (11, iV (min (ka1 (kB a n) ((i * 2) + 1) 0) (ka1 (kB b m) ((j * 2) + 1) 0))), (13, sV .i64 (kB a n) (kQ a n)), (14, uV (kQ a n)), (15, uV i), (20, sV .i64 (kB b m) (kQ b m)), (21, uV (kQ b m)), (22, uV j)] [(1, some (56, .ds [dl b m])), (4, some (77, (eU a n i))), (5, some (77, .ds (dI .i64 q)))] 7 trivial ?_
   by_cases hx7 : ((max (ka1 (kB a n) (i * 2) 0) (ka1 (kB b m) (j * 2) 0)) ≤ (min (ka1 (kB a n) ((i * 2) + 1) 0) (ka1 (kB b m) ((j * 2) + 1) 0)))
   ·refine kP [.no, .no, .b true] (((max (ka1 (kB a n) (i * 2) 0) (ka1 (kB b m) (j * 2) 0)) ≤ (min (ka1 (kB a n) ((i * 2) + 1) 0) (ka1 (kB b m) ((j * 2) + 1) 0)))) [(3, rV 1 0), (5, oV 5 0 k2 2), (7, rV 4 0), (10, iV (max (ka1 (kB a n) (i * 2) 0) (ka1 (kB b m) (j * 2) 0))), (11, iV (min (ka1 (kB a n) ((i * 2) + 1) 0) (ka1 (kB b m) ((j * 2) + 1) 0))), (13, sV .i64 (kB a n) (kQ a n)), (14, uV (kQ a n)), (15, uV i), (20, sV .i64 (kB b m) (kQ b m)), (21, uV (kQ b m)), (22, uV j), (38, bV true)] zo ?_
    refine zt ?_
    refine a5 (qA 5 [.ap none (k2 + 1) (dI .i64 (q ++ ([(max (ka1 (kB a n) (i * 2) 0) (ka1 (kB b m) (j * 2) 0)), (min (ka1 (kB a n) ((i * 2) + 1) 0) (ka1 (kB b m) ((j * 2) + 1) 0))] : List Int))), .no]) (([iD (max (ka1 (kB a n) (i * 2) 0) (ka1 (kB b m) (j * 2) 0)), iD (min (ka1 (kB a n) ((i * 2) + 1) 0) (ka1 (kB b m) ((j * 2) + 1) 0))].length = 1 * 2) ∧ (((dI .i64 q) : List D).length = k2 * 2) ∧ ((k2 + 1) * 16 ≤ 140737488355328) ∧ (k2 + 1 = (k2 + 1)) ∧ (((dI .i64 q) : List D) ++ [iD (max (ka1 (kB a n) (i * 2) 0) (ka1 (kB b m) (j * 2) 0)), iD (min (ka1 (kB a n) ((i * 2) + 1) 0) (ka1 (kB b m) ((j * 2) + 1) 0))] = (dI .i64 (q ++ ([(max (ka1 (kB a n) (i * 2) 0) (ka1 (kB b m) (j * 2) 0)), (min (ka1 (kB a n) ((i * 2) + 1) 0) (ka1 (kB b m) ((j * 2) + 1) 0))] : List Int))))) [(3, rV 1 0), (5, oV 8 0 (k2 + 1) 2), (7, rV 4 0), (13, sV .i64 (kB a n) (kQ a n)), (14, uV (kQ a n)), (15, uV i), (20, sV .i64 (kB b m) (kQ b m)), (21, uV (kQ b m)), (22, uV j)] [(1, some (56, .ds [dl b m])), (4, some (77, (eU a n i))), (8, some (77, .ds (dI .i64 (q ++ ([(max (ka1 (kB a n) (i * 2) 0) (ka1 (kB b m) (j * 2) 0)), (min (ka1 (kB a n) ((i * 2) + 1) 0) (ka1 (kB b m) ((j * 2) + 1) 0))] : List Int)))))] 9 ⟨bH, bH, zo, zo, (yF .i64 q ([(max (ka1 (kB a n) (i * 2) 0) (ka1 (kB b m) (j * 2) 0)), (min (ka1 (kB a n) ((i * 2) + 1) 0) (ka1 (kB b m) ((j * 2) + 1) 0))] : List Int))⟩ ?_
    refine uS [.w, .no] ((-9223372036854775808) ≤ ((j : Int) + 1) ∧ ((j : Int) + 1) ≤ 9223372036854775807) [(3, rV 1 0), (5, oV 8 0 (k2 + 1) 2), (7, rV 4 0), (13, sV .i64 (kB a n) (kQ a n)), (14, uV (kQ a n)), (15, uV i), (20, sV .i64 (kB b m) (kQ b m)), (21, uV (kQ b m)), (22, iV (↑j + 1))] ⟨by omega, by omega⟩ ?_
    exact kW ⟨(((j + 1) : Nat), ((k2 + 1) : Nat), ((q ++ ([(max (ka1 (kB a n) (i * 2) 0) (ka1 (kB b m) (j * 2) 0)), (min (ka1 (kB a n) ((i * 2) + 1) 0) (ka1 (kB b m) ((j * 2) + 1) 0))] : List Int)) : List Int)), ⟨vH, (by first | exact hJ.y (kV hb) zo zo zo zo rfl | exact hJ.n (kV hb) zo zo), j4⟩⟩ [(5, 8)] (P := (kH 0) ∧ (kH 0) ∧ (kH (k2 + 1)) ∧ (kH 0) ∧ (kM (dI .i64 (kB a n))) ∧ (kH (kQ a n)) ∧ (kO (kQ a n : Int)) ∧ (kO (i : Int)) ∧ (kM (dI .i64 (kB b m))) ∧ (kH (kQ b m)) ∧ (kO (kQ b m : Int)) ∧ (((((j + 1) : Nat) : Int) : Int) = ((j : Int) + 1)) ∧ (kM [dl b m]) ∧ (kM (dI .i64 (q ++ ([(max (ka1 (kB a n) (i * 2) 0) (ka1 (kB b m) (j * 2) 0)), (min (ka1 (kB a n) ((i * 2) + 1) 0) (ka1 (kB b m) ((j * 2) + 1) 0))] : List Int)))) ∧ (kM [iD (ka1 (kB a n) (i * 2) 0), iD (ka1 (kB a n) ((i * 2) + 1) 0)])) zk ⟨rfl, rfl, rfl, rfl, rfl, rfl, rfl, rfl, rfl, rfl, rfl, aI, rfl, rfl, rfl⟩ (show kQ b m - (j + 1) < kQ b m - j from bA)
   ·refine kP [.no, .no, .b false] (¬ ((max (ka1 (kB a n) (i * 2) 0) (ka1 (kB b m) (j * 2) 0)) ≤ (min (ka1 (kB a n) ((i * 2) + 1) 0) (ka1 (kB b m) ((j * 2) + 1) 0)))) [(3, rV 1 0), (5, oV 5 0 k2 2), (7, rV 4 0), (10, iV (max (ka1 (kB a n) (i * 2) 0) (ka1 (kB b m) (j * 2) 0))), (11, iV (min (ka1 (kB a n) ((i * 2) + 1) 0) (ka1 (kB b m) ((j * 2) + 1) 0))), (13, sV .i64 (kB a n) (kQ a n)), (14, uV (kQ a n)), (15, uV i), (20, sV .i64 (kB b m) (kQ b m)), (21, uV (kQ b m)), (22, uV j), (38, bV false)] zo ?_
    refine uB ?_
    refine uS [.w, .no] ((-9223372036854775808) ≤ ((j : Int) + 1) ∧ ((j : Int) + 1) ≤ 9223372036854775807) [(3, rV 1 0), (5, oV 5 0 k2 2), (7, rV 4 0), (13, sV .i64 (kB a n) (kQ a n)), (14, uV (kQ a n)), (15, uV i), (20, sV .i64 (kB b m) (kQ b m)), (21, uV (kQ b m)), (22, iV (↑j + 1))] ⟨by omega, by omega⟩ ?_
    exact kW ⟨(((j + 1) : Nat), (k2 : Nat), (q : List Int)), ⟨vH, (by first | exact hJ.y (kV hb) zo zo zo zo rfl | exact hJ.n (kV hb) zo zo), j4⟩⟩ [] (P := (kH 0) ∧ (kH 0) ∧ (kH k2) ∧ (kH 0) ∧ (kM (dI .i64 (kB a n))) ∧ (kH (kQ a n)) ∧ (kO (kQ a n : Int)) ∧ (kO (i : Int)) ∧ (kM (dI .i64 (kB b m))) ∧ (kH (kQ b m)) ∧ (kO (kQ b m : Int)) ∧ (((((j + 1) : Nat) : Int) : Int) = ((j : Int) + 1)) ∧ (kM [dl b m]) ∧ (kM (dI .i64 q)) ∧ (kM [iD (ka1 (kB a n) (i * 2) 0), iD (ka1 (kB a n) ((i * 2) + 1) 0)])) zk ⟨rfl, rfl, rfl, rfl, rfl, rfl, rfl, rfl, rfl, rfl, rfl, aI, rfl, rfl, rfl⟩ (show kQ b m - (j + 1) < kQ b m - j from bA)
  ·refine kL [.b false] (¬ ((j : Int) < (kQ b m : Int))) [(3, rV 1 0), (5, oV 5 0 k2 2), (7, rV 4 0), (13, sV .i64 (kB a n) (kQ a n)), (14, uV (kQ a n)), (15, uV i), (20, sV .i64 (kB b m) (kQ b m)), (21, uV (kQ b m)), (22, uV j), (23, bV false)] [(1, some (56, .ds [dl b m])), (4, some (77, (eU a n i))), (5, some (77, .ds (dI .i64 q)))] 6 zo ?_
   refine AW.seq ?_
   refine zf ?_
   refine AW.exit ?_
   refine a5 [.w, .no] ((-9223372036854775808) ≤ ((i : Int) + 1) ∧ ((i : Int) + 1) ≤ 9223372036854775807) [(3, rV 1 0), (5, oV 5 0 k2 2), (13, sV .i64 (kB a n) (kQ a n)), (14, uV (kQ a n)), (15, iV (↑i + 1))] [(1, some (56, .ds [dl b m])), (5, some (77, .ds (dI .i64 q)))] 6 ⟨by omega, by omega⟩ ?_
   exact kW ⟨(((i + 1) : Nat), (k2 : Nat), (q : List Int)), ⟨vH, (hJ.out (kV ha) zo (kV hb) zo), (by first | assumption | omega)⟩⟩ [(3, 5)] (P := (kH 0) ∧ (kH 0) ∧ (kH k2) ∧ (kM (dI .i64 (kB a n))) ∧ (kH (kQ a n)) ∧ (kO (kQ a n : Int)) ∧ (((((i + 1) : Nat) : Int) : Int) = ((i : Int) + 1)) ∧ (kM [dl b m]) ∧ (kM (dI .i64 q))) zk ⟨rfl, rfl, rfl, rfl, rfl, rfl, aI, rfl, rfl⟩ (show kQ a n - (i + 1) < kQ a n - i from bA)
 ·refine kL [.b false] (¬ ((i : Int) < (kQ a n : Int))) [(3, rV 1 0), (5, oV 3 0 k 2), (13, sV .i64 (kB a n) (kQ a n)), (14, uV (kQ a n)), (15, uV i), (16, bV false)] [(1, some (56, .ds [dl b m])), (3, some (77, .ds (dI .i64 o)))] 4 zo ?_
  refine AW.seq ?_
  refine zf ?_
  refine AW.exit ?_
  refine kL [.no, .no] True [(4, oV 3 0 k 2)] [(3, some (77, .ds (dI .i64 o)))] 4 trivial ?_
  obtain ⟨hz1, hz2⟩ := hA.fin (kV ha) zo
  have hz3 : qD (kB a n) (kB b m) = k := hz2
  refine AW.freeze 3 (l' := [(4, sV .i64 o k)]) (g' := []) rfl (FzS.cons rfl (.e (.c (@FzC.own 3 ((dI .i64 o) : List D) 0 k 2 true ((dI .i64 o) : List D) p8 bH))) FzS.nil) FzG.nil ?_
  refine AW.ret ?_
  exact kD (.inr rfl) [] (P := (((dI .i64 (uN (kB a n) (kB b m))) : List D) = (dI .i64 o)) ∧ (((qD (kB a n) (kB b m)) : Nat) = k)) zk ⟨(by first | exact congrArg _ hz1.symm | rfl), j3⟩
theorem s8 (a b : Int) (ha : -9223372036854775808 ≤ a ∧ a ≤ 9223372036854775807) (hb : -9223372036854775808 ≤ b ∧ b ≤ 9223372036854775807) : Fun 137 [iE a, iE b] (kK []) 0 (qY (D.lit (.int .u64 (bG a b)))) (kK []) 0 := by
 refine Fun.mk (n := 18) Tryz.func137 rfl rfl (ka5 rfl) ?_
 intro cx hcx
 refine kL [.no] True [(0, iV a), (1, iV b)] [] 0 trivial ?_
 refine AW.seq ?_
 by_cases hx1 : (b < a)
 ·refine kP [.no, .no, .b true] ((b < a)) [(0, iV a), (1, iV b), (7, bV true)] zo ?_
  refine zt ?_
  refine kP [.no, .i (a % 18446744073709551616), .no, .i (b % 18446744073709551616), .i (a - b), .no] ((IntKind.u64.wrap (a : Int) = (a % 18446744073709551616)) ∧ (IntKind.u64.wrap (b : Int) = (b % 18446744073709551616)) ∧ (IntKind.u64.wrap (((a % 18446744073709551616) - (b % 18446744073709551616)) : Int) = (a - b))) [(4, qY (D.lit (.int .u64 (a - b))))] ⟨(vB _), (vB _), (by rw [vB]; omega)⟩ ?_
  refine AW.ret ?_
  exact kD (.inr rfl) [] (P := (((bG a b) : Int) = (a - b))) zk (by unfold bG; split <;> omega)
 ·refine kP [.no, .no, .b false] (¬ (b < a)) [(0, iV a), (1, iV b), (7, bV false)] zo ?_
  refine uB ?_
  refine kP [.no, .i (b % 18446744073709551616), .no, .i (a % 18446744073709551616), .i (b - a), .no] ((IntKind.u64.wrap (b : Int) = (b % 18446744073709551616)) ∧ (IntKind.u64.wrap (a : Int) = (a % 18446744073709551616)) ∧ (IntKind.u64.wrap (((b % 18446744073709551616) - (a % 18446744073709551616)) : Int) = (b - a))) [(4, qY (D.lit (.int .u64 (b - a))))] ⟨(vB _), (vB _), (by rw [vB]; omega)⟩ ?_
  refine AW.ret ?_
  exact kD (.inr rfl) [] (P := (((bG a b) : Int) = (b - a))) zk (by unfold bG; split <;> omega)
theorem s9 (a b : Int) (ha : -9223372036854775808 ≤ a ∧ a ≤ 9223372036854775807) (hb : -9223372036854775808 ≤ b ∧ b ≤ 9223372036854775807) : Fun 138 [iE a, iE b] (kK []) 0 (qY (D.lit (.int .u64 (bG a b)))) (kK []) 0 := by
 refine Fun.mk (n := 18) Tryz.func138 rfl rfl (ka5 rfl) ?_
 intro cx hcx
 refine kL [.no] True [(0, iV a), (1, iV b)] [] 0 trivial ?_
 refine AW.seq ?_
 by_cases hx1 : (a < b)
 ·refine kP [.no, .no, .b true] ((a < b)) [(0, iV a), (1, iV b), (7, bV true)] zo ?_
  refine zt ?_
  refine kP [.no, .i (b % 18446744073709551616), .no, .i (a % 18446744073709551616), .i (b - a), .no] ((IntKind.u64.wrap (b : Int) = (b % 18446744073709551616)) ∧ (IntKind.u64.wrap (a : Int) = (a % 18446744073709551616)) ∧ (IntKind.u64.wrap (((b % 18446744073709551616) - (a % 18446744073709551616)) : Int) = (b - a))) [(4, qY (D.lit (.int .u64 (b - a))))] ⟨(vB _), (vB _), (by rw [vB]; omega)⟩ ?_
  refine AW.ret ?_
  exact kD (.inr rfl) [] (P := (((bG a b) : Int) = (b - a))) zk (by unfold bG; split <;> omega)
 ·refine kP [.no, .no, .b false] (¬ (a < b)) [(0, iV a), (1, iV b), (7, bV false)] zo ?_
  refine uB ?_
  refine kP [.no, .i (a % 18446744073709551616), .no, .i (b % 18446744073709551616), .i (a - b), .no] ((IntKind.u64.wrap (a : Int) = (a % 18446744073709551616)) ∧ (IntKind.u64.wrap (b : Int) = (b % 18446744073709551616)) ∧ (IntKind.u64.wrap (((a % 18446744073709551616) - (b % 18446744073709551616)) : Int) = (a - b))) [(4, qY (D.lit (.int .u64 (a - b))))] ⟨(vB _), (vB _), (by rw [vB]; omega)⟩ ?_
  refine AW.ret ?_
  exact kD (.inr rfl) [] (P := (((bG a b) : Int) = (a - b))) zk (by unfold bG; split <;> omega)
theorem cQ {p : Prop} (h : p := by first | rfl | assumption | simp) : p := h
theorem p7 {p : Prop} (h : p := by first | omega | with_reducible assumption | (simp only [uK, ka6, ka8, kb3, ka9, kb0, kb4, kb8] <;> omega) | rfl | assumption) : p := h
theorem k7n (l : List Int) (n : Nat) (z : Int) (hl : ka0 l = n * 2) (hb : n ≤ 9223372036854775807) (hz : -9223372036854775808 ≤ z ∧ z ≤ 9223372036854775807) : Fun 100 [.agg [.d (D.sl (dI .i64 l) n)], iE z] (kK []) 0 (.tup [iE (q8 z (kB l n)), .c (.d (D.lit (.bool (nrF z (kB l n)))))]) (kK []) 0 := by
 refine Fun.mk (n := 40) Tryz.func100 rfl rfl (ka5 rfl) ?_
 intro cx hcx
 refine kL [.no, .no, .no] True [(1, iV z), (2, rV 0 0)] [(0, some (56, .ds [dl l n]))] 1 trivial ?_
 refine kP [.no, .no] True [(1, iV z), (2, rV 0 0), (6, iV 0), (7, bV false)] trivial ?_
 refine AW.seq ?_
 have hx1 : ((ka0 (kB l n)) = ((kQ l n) * 2)) := kV (zo)
 have hx2 : (((kQ l n) ≤ 64) ∧ ((kQ l n) ≤ n)) := cF
 refine kL [.no, .call [] (sV .i64 (kB l n) (kQ l n)) [] 0 [] none, .no, .no] _ [(1, iV z), (6, iV 0), (7, bV false), (12, sV .i64 (kB l n) (kQ l n)), (13, uV (kQ l n)), (14, iV 0)] [] 1 (mW l n zo zo) ?_
 refine AW.block ?_
 refine kZ 0 hcx (fun (x : {x : Nat × Int × Bool // match x with | (i, y, f) => (i ≤ kQ l n ∧ -9223372036854775808 ≤ y ∧ y ≤ 9223372036854775807) ∧ (NR z (kB l n) i y f)}) => match x with | ⟨(i, y, f), _⟩ => (⟨[(1, iV z), (6, iV y), (7, qY (D.lit (.bool (f)))), (12, sV .i64 (kB l n) (kQ l n)), (13, uV (kQ l n)), (14, uV i)], [], 1⟩ : ES)) (fun x => match x with | ⟨(i, y, f), _⟩ => kQ l n - i) ⟨((0 : Nat), (0 : Int), (false : Bool)), ⟨vH, (NR.zero _ _)⟩⟩ [] (P := (kO z) ∧ (kO 0) ∧ ((false) = false) ∧ (kM (dI .i64 (kB l n))) ∧ (kH (kQ l n)) ∧ (kO (kQ l n : Int)) ∧ (kO 0)) zk ⟨rfl, rfl, cQ, rfl, rfl, rfl, rfl⟩ ?_
 rintro ⟨⟨i, y, f⟩, hinv0⟩
 obtain ⟨hi, hN⟩ : (i ≤ kQ l n ∧ -9223372036854775808 ≤ y ∧ y ≤ 9223372036854775807) ∧ (NR z (kB l n) i y f) := hinv0
 refine qT (l := [(1, iV z), (6, iV y), (7, qY (D.lit (.bool (f)))), (12, sV .i64 (kB l n) (kQ l n)), (13, uV (kQ l n)), (14, uV i)]) (g := []) (nx := 1) rfl rfl rfl ?_
 by_cases hx3 : (((i : Nat) : Int) < (((kQ l n) : Nat) : Int))
 ·have hx4 : 0 ≤ ka1 (kB l n) (i * 2) 0 ∧ ka1 (kB l n) (i * 2) 0 ≤ ka1 (kB l n) (i * 2 + 1) 0 ∧ ka1 (kB l n) (i * 2 + 1) 0 ≤ 2147483647 := u0d hl i zo
  refine kL [.b true] (((i : Int) < (kQ l n : Int))) [(1, iV z), (6, iV y), (7, qY (D.lit (.bool (f)))), (12, sV .i64 (kB l n) (kQ l n)), (13, uV (kQ l n)), (14, uV i), (15, bV true)] [] 1 zo ?_
  refine AW.seq ?_
  refine vP ?_
  refine AW.seq ?_
  refine AW.block ?_
  refine kL [.n i, .ds [iD (ka1 (kB l n) (i * 2) 0), iD (ka1 (kB l n) ((i * 2) + 1) 0)], .no, .no] ((kO (i : Int)) ∧ (i < (kQ l n)) ∧ (ka3 2 (ka4 (i * 2) (dI .i64 (kB l n))) = [iD (ka1 (kB l n) (i * 2) 0), iD (ka1 (kB l n) ((i * 2) + 1) 0)]) ∧ (([iD (ka1 (kB l n) (i * 2) 0), iD (ka1 (kB l n) ((i * 2) + 1) 0)] : List D).length = 2)) [(1, iV z), (6, iV y), (7, qY (D.lit (.bool (f)))), (9, rV 1 0), (12, sV .i64 (kB l n) (kQ l n)), (13, uV (kQ l n)), (14, uV i)] [(1, some (77, .ds [iD (ka1 (kB l n) (i * 2) 0), iD (ka1 (kB l n) ((i * 2) + 1) 0)]))] 2 ⟨rfl, zo, (bN .i64 (kB l n) (i * 2) 2 bH), rfl⟩ ?_
  refine kL (qA 8 []) True [(1, iV z), (6, iV y), (7, qY (D.lit (.bool (f)))), (10, iV (min (max z (ka1 (kB l n) (i * 2) 0)) (ka1 (kB l n) ((i * 2) + 1) 0))), (12, sV .i64 (kB l n) (kQ l n)), (13, uV (kQ l n)), (14, uV i)] [] 2 trivial ?_
  rcases Bool.eq_false_or_eq_true (f) with hx5 | hx5
  ·subst hx5
   by_cases hx8 : ((bG (min (max z (ka1 (kB l n) (i * 2) 0)) (ka1 (kB l n) ((i * 2) + 1) 0)) z) < (bG y z))
   ·have hx9 : ((0 : Int) ≤ (bG (min (max z (ka1 (kB l n) (i * 2) 0)) (ka1 (kB l n) ((i * 2) + 1) 0)) z)) := fJ
    have hx10 : ((0 : Int) ≤ (bG y z)) := fJ
    refine kL (qA 5 [.call [] (qY (D.lit (.int .u64 (bG (min (max z (ka1 (kB l n) (i * 2) 0)) (ka1 (kB l n) ((i * 2) + 1) 0)) z)))) [] 0 [] none, .no, .no, .call [] (qY (D.lit (.int .u64 (bG y z)))) [] 0 [] none, .b true, .no]) ((_) ∧ (_) ∧ (((bG (min (max z (ka1 (kB l n) (i * 2) 0)) (ka1 (kB l n) ((i * 2) + 1) 0)) z) < (bG y z)))) [(1, iV z), (6, iV y), (7, bV true), (10, iV (min (max z (ka1 (kB l n) (i * 2) 0)) (ka1 (kB l n) ((i * 2) + 1) 0))), (12, sV .i64 (kB l n) (kQ l n)), (13, uV (kQ l n)), (14, uV i), (35, bV true)] [] 2 ⟨(s8 (min (max z (ka1 (kB l n) (i * 2) 0)) (ka1 (kB l n) ((i * 2) + 1) 0)) z p7 zo), (s8 y z zo zo), zo⟩ ?_
    refine zt ?_
    refine uS [.no, .no, .no] True [(1, iV z), (6, iV (min (max z (ka1 (kB l n) (i * 2) 0)) (ka1 (kB l n) ((i * 2) + 1) 0))), (7, bV true), (12, sV .i64 (kB l n) (kQ l n)), (13, uV (kQ l n)), (14, uV i)] trivial ?_
    refine uS [.w, .no] ((-9223372036854775808) ≤ ((i : Int) + 1) ∧ ((i : Int) + 1) ≤ 9223372036854775807) [(1, iV z), (6, iV (min (max z (ka1 (kB l n) (i * 2) 0)) (ka1 (kB l n) ((i * 2) + 1) 0))), (7, bV true), (12, sV .i64 (kB l n) (kQ l n)), (13, uV (kQ l n)), (14, iV (↑i + 1))] ⟨by omega, by omega⟩ ?_
    exact kW ⟨(((i + 1) : Nat), ((min (max z (ka1 (kB l n) (i * 2) 0)) (ka1 (kB l n) ((i * 2) + 1) 0)) : Int), (true : Bool)), ⟨vH, (by first | exact hN.first (kV hl) zo (by show _ = max _ (min _ z); first | (simp only; done) | (simp only; omega) | omega) | exact hN.near (kV hl) zo (by show _ = max _ (min _ z); first | (simp only; done) | (simp only; omega) | omega) zo | exact hN.far (kV hl) zo (by assumption) (by show _ = max _ (min _ z); first | (simp only; done) | (simp only; omega) | omega))⟩⟩ [] (P := (kO z) ∧ (kO (min (max z (ka1 (kB l n) (i * 2) 0)) (ka1 (kB l n) ((i * 2) + 1) 0))) ∧ ((true) = true) ∧ (kM (dI .i64 (kB l n))) ∧ (kH (kQ l n)) ∧ (kO (kQ l n : Int)) ∧ (((((i + 1) : Nat) : Int) : Int) = ((i : Int) + 1))) zk ⟨rfl, rfl, cQ, rfl, rfl, rfl, aI⟩ (show kQ l n - (i + 1) < kQ l n - i from bA)
   ·have hx11 : ((0 : Int) ≤ (bG (min (max z (ka1 (kB l n) (i * 2) 0)) (ka1 (kB l n) ((i * 2) + 1) 0)) z)) := fJ
    have hx12 : ((0 : Int) ≤ (bG y z)) := fJ
    refine kL (qA 5 [.call [] (qY (D.lit (.int .u64 (bG (min (max z (ka1 (kB l n) (i * 2) 0)) (ka1 (kB l n) ((i * 2) + 1) 0)) z)))) [] 0 [] none, .no, .no, .call [] (qY (D.lit (.int .u64 (bG y z)))) [] 0 [] none, .b false, .no]) ((_) ∧ (_) ∧ (¬ ((bG (min (max z (ka1 (kB l n) (i * 2) 0)) (ka1 (kB l n) ((i * 2) + 1) 0)) z) < (bG y z)))) [(1, iV z), (6, iV y), (7, bV true), (10, iV (min (max z (ka1 (kB l n) (i * 2) 0)) (ka1 (kB l n) ((i * 2) + 1) 0))), (12, sV .i64 (kB l n) (kQ l n)), (13, uV (kQ l n)), (14, uV i), (35, bV false)] [] 2 ⟨(s8 (min (max z (ka1 (kB l n) (i * 2) 0)) (ka1 (kB l n) ((i * 2) + 1) 0)) z p7 zo), (s8 y z zo zo), zo⟩ ?_
    refine uB ?_
    refine uS [.w, .no] ((-9223372036854775808) ≤ ((i : Int) + 1) ∧ ((i : Int) + 1) ≤ 9223372036854775807) [(1, iV z), (6, iV y), (7, bV true), (12, sV .i64 (kB l n) (kQ l n)), (13, uV (kQ l n)), (14, iV (↑i + 1))] ⟨by omega, by omega⟩ ?_
    exact kW ⟨(((i + 1) : Nat), (y : Int), (true : Bool)), ⟨vH, (by first | exact hN.first (kV hl) zo (by show _ = max _ (min _ z); first | (simp only; done) | (simp only; omega) | omega) | exact hN.near (kV hl) zo (by show _ = max _ (min _ z); first | (simp only; done) | (simp only; omega) | omega) zo | exact hN.far (kV hl) zo (by assumption) (by show _ = max _ (min _ z); first | (simp only; done) | (simp only; omega) | omega))⟩⟩ [] (P := (kO z) ∧ (kO y) ∧ ((true) = true) ∧ (kM (dI .i64 (kB l n))) ∧ (kH (kQ l n)) ∧ (kO (kQ l n : Int)) ∧ (((((i + 1) : Nat) : Int) : Int) = ((i : Int) + 1))) zk ⟨rfl, rfl, cQ, rfl, rfl, rfl, aI⟩ (show kQ l n - (i + 1) < kQ l n - i from bA)
  ·subst hx5
   refine kL (qA 4 []) True [(1, iV z), (6, iV y), (7, bV false), (10, iV (min (max z (ka1 (kB l n) (i * 2) 0)) (ka1 (kB l n) ((i * 2) + 1) 0))), (12, sV .i64 (kB l n) (kQ l n)), (13, uV (kQ l n)), (14, uV i), (35, bV true)] [] 2 trivial ?_
   refine zt ?_
   refine uS [.no, .no, .no] True [(1, iV z), (6, iV (min (max z (ka1 (kB l n) (i * 2) 0)) (ka1 (kB l n) ((i * 2) + 1) 0))), (7, bV true), (12, sV .i64 (kB l n) (kQ l n)), (13, uV (kQ l n)), (14, uV i)] trivial ?_
   refine uS [.w, .no] ((-9223372036854775808) ≤ ((i : Int) + 1) ∧ ((i : Int) + 1) ≤ 9223372036854775807) [(1, iV z), (6, iV (min (max z (ka1 (kB l n) (i * 2) 0)) (ka1 (kB l n) ((i * 2) + 1) 0))), (7, bV true), (12, sV .i64 (kB l n) (kQ l n)), (13, uV (kQ l n)), (14, iV (↑i + 1))] ⟨by omega, by omega⟩ ?_
   exact kW ⟨(((i + 1) : Nat), ((min (max z (ka1 (kB l n) (i * 2) 0)) (ka1 (kB l n) ((i * 2) + 1) 0)) : Int), (true : Bool)), ⟨vH, (by first | exact hN.first (kV hl) zo (by show _ = max _ (min _ z); first | (simp only; done) | (simp only; omega) | omega) | exact hN.near (kV hl) zo (by show _ = max _ (min _ z); first | (simp only; done) | (simp only; omega) | omega) zo | exact hN.far (kV hl) zo (by assumption) (by show _ = max _ (min _ z); first | (simp only; done) | (simp only; omega) | omega))⟩⟩ [] (P := (kO z) ∧ (kO (min (max z (ka1 (kB l n) (i * 2) 0)) (ka1 (kB l n) ((i * 2) + 1) 0))) ∧ ((true) = true) ∧ (kM (dI .i64 (kB l n))) ∧ (kH (kQ l n)) ∧ (kO (kQ l n : Int)) ∧ (((((i + 1) : Nat) : Int) : Int) = ((i : Int) + 1))) zk ⟨rfl, rfl, cQ, rfl, rfl, rfl, aI⟩ (show kQ l n - (i + 1) < kQ l n - i from bA)
 ·refine kL [.b false] (¬ ((i : Int) < (kQ l n : Int))) [(1, iV z), (6, iV y), (7, qY (D.lit (.bool (f)))), (12, sV .i64 (kB l n) (kQ l n)), (13, uV (kQ l n)), (14, uV i), (15, bV false)] [] 1 zo ?_
  refine AW.seq ?_
  refine zf ?_
  refine AW.exit ?_
  refine kL (qA 4 []) True [(4, iV y), (5, qY (D.lit (.bool (f))))] [] 1 trivial ?_
  obtain ⟨hz1, hz2⟩ := hN.fin (kV hl) zo
  refine AW.ret ?_
  exact kD (.inr rfl) [] (P := (((q8 z (kB l n)) : Int) = y) ∧ ((nrF z (kB l n)) = (f))) zk ⟨j3, hz2⟩
theorem k2b (l : List Int) (n : Nat) (z : Int) (hl : ka0 l = n * 2) (hb : n ≤ 9223372036854775807) (hz : -9223372036854775808 ≤ z ∧ z ≤ 9223372036854775807) : Fun 104 [.agg [.d (D.sl (dI .i64 l) n)], iE z] (kK []) 0 (.tup [iE (q8 z (kB l n)), .c (.d (D.lit (.bool (nrF z (kB l n)))))]) (kK []) 0 := by
 refine Fun.mk (n := 40) Tryz.func104 rfl rfl (ka5 rfl) ?_
 intro cx hcx
 refine kL [.no, .no, .no] True [(1, iV z), (2, rV 0 0)] [(0, some (56, .ds [dl l n]))] 1 trivial ?_
 refine kP [.no, .no] True [(1, iV z), (2, rV 0 0), (6, iV 0), (7, bV false)] trivial ?_
 refine AW.seq ?_
 have hx1 : ((ka0 (kB l n)) = ((kQ l n) * 2)) := kV (zo)
 have hx2 : (((kQ l n) ≤ 64) ∧ ((kQ l n) ≤ n)) := cF
 refine kL [.no, .call [] (sV .i64 (kB l n) (kQ l n)) [] 0 [] none, .no, .no] _ [(1, iV z), (6, iV 0), (7, bV false), (12, sV .i64 (kB l n) (kQ l n)), (13, uV (kQ l n)), (14, iV 0)] [] 1 (n8 l n zo zo) ?_
 refine AW.block ?_
 refine kZ 0 hcx (fun (x : {x : Nat × Int × Bool // match x with | (i, y, f) => (i ≤ kQ l n ∧ -9223372036854775808 ≤ y ∧ y ≤ 9223372036854775807) ∧ (NR z (kB l n) i y f)}) => match x with | ⟨(i, y, f), _⟩ => (⟨[(1, iV z), (6, iV y), (7, qY (D.lit (.bool (f)))), (12, sV .i64 (kB l n) (kQ l n)), (13, uV (kQ l n)), (14, uV i)], [], 1⟩ : ES)) (fun x => match x with | ⟨(i, y, f), _⟩ => kQ l n - i) ⟨((0 : Nat), (0 : Int), (false : Bool)), ⟨vH, (NR.zero _ _)⟩⟩ [] (P := (kO z) ∧ (kO 0) ∧ ((false) = false) ∧ (kM (dI .i64 (kB l n))) ∧ (kH (kQ l n)) ∧ (kO (kQ l n : Int)) ∧ (kO 0)) zk ⟨rfl, rfl, cQ, rfl, rfl, rfl, rfl⟩ ?_
 rintro ⟨⟨i, y, f⟩, hinv0⟩
 obtain ⟨hi, hN⟩ : (i ≤ kQ l n ∧ -9223372036854775808 ≤ y ∧ y ≤ 9223372036854775807) ∧ (NR z (kB l n) i y f) := hinv0
 refine qT (l := [(1, iV z), (6, iV y), (7, qY (D.lit (.bool (f)))), (12, sV .i64 (kB l n) (kQ l n)), (13, uV (kQ l n)), (14, uV i)]) (g := []) (nx := 1) rfl rfl rfl ?_
 by_cases hx3 : (((i : Nat) : Int) < (((kQ l n) : Nat) : Int))
 ·have hx4 : 0 ≤ ka1 (kB l n) (i * 2) 0 ∧ ka1 (kB l n) (i * 2) 0 ≤ ka1 (kB l n) (i * 2 + 1) 0 ∧ ka1 (kB l n) (i * 2 + 1) 0 ≤ 2147483647 := u0d hl i zo
  refine kL [.b true] (((i : Int) < (kQ l n : Int))) [(1, iV z), (6, iV y), (7, qY (D.lit (.bool (f)))), (12, sV .i64 (kB l n) (kQ l n)), (13, uV (kQ l n)), (14, uV i), (15, bV true)] [] 1 zo ?_
  refine AW.seq ?_
  refine vP ?_
  refine AW.seq ?_
  refine AW.block ?_
  refine kL [.n i, .ds [iD (ka1 (kB l n) (i * 2) 0), iD (ka1 (kB l n) ((i * 2) + 1) 0)], .no, .no] ((kO (i : Int)) ∧ (i < (kQ l n)) ∧ (ka3 2 (ka4 (i * 2) (dI .i64 (kB l n))) = [iD (ka1 (kB l n) (i * 2) 0), iD (ka1 (kB l n) ((i * 2) + 1) 0)]) ∧ (([iD (ka1 (kB l n) (i * 2) 0), iD (ka1 (kB l n) ((i * 2) + 1) 0)] : List D).length = 2)) [(1, iV z), (6, iV y), (7, qY (D.lit (.bool (f)))), (9, rV 1 0), (12, sV .i64 (kB l n) (kQ l n)), (13, uV (kQ l n)), (14, uV i)] [(1, some (77, .ds [iD (ka1 (kB l n) (i * 2) 0), iD (ka1 (kB l n) ((i * 2) + 1) 0)]))] 2 ⟨rfl, zo, (bN .i64 (kB l n) (i * 2) 2 bH), rfl⟩ ?_
  refine kL (qA 8 []) True [(1, iV z), (6, iV y), (7, qY (D.lit (.bool (f)))), (10, iV (max (ka1 (kB l n) (i * 2) 0) (min (ka1 (kB l n) ((i * 2) + 1) 0) z))), (12, sV .i64 (kB l n) (kQ l n)), (13, uV (kQ l n)), (14, uV i)] [] 2 trivial ?_
  rcases Bool.eq_false_or_eq_true (f) with hx5 | hx5
  ·subst hx5
   by_cases hx8 : ((bG (max (ka1 (kB l n) (i * 2) 0) (min (ka1 (kB l n) ((i * 2) + 1) 0) z)) z) < (bG y z))
   ·have hx9 : ((0 : Int) ≤ (bG (max (ka1 (kB l n) (i * 2) 0) (min (ka1 (kB l n) ((i * 2) + 1) 0) z)) z)) := fJ
    have hx10 : ((0 : Int) ≤ (bG y z)) := fJ
    refine kL (qA 5 [.call [] (qY (D.lit (.int .u64 (bG (max (ka1 (kB l n) (i * 2) 0) (min (ka1 (kB l n) ((i * 2) + 1) 0) z)) z)))) [] 0 [] none, .no, .no, .call [] (qY (D.lit (.int .u64 (bG y z)))) [] 0 [] none, .b true, .no]) ((_) ∧ (_) ∧ (((bG (max (ka1 (kB l n) (i * 2) 0) (min (ka1 (kB l n) ((i * 2) + 1) 0) z)) z) < (bG y z)))) [(1, iV z), (6, iV y), (7, bV true), (10, iV (max (ka1 (kB l n) (i * 2) 0) (min (ka1 (kB l n) ((i * 2) + 1) 0) z))), (12, sV .i64 (kB l n) (kQ l n)), (13, uV (kQ l n)), (14, uV i), (35, bV true)] [] 2 ⟨(s9 (max (ka1 (kB l n) (i * 2) 0) (min (ka1 (kB l n) ((i * 2) + 1) 0) z)) z p7 zo), (s9 y z zo zo), zo⟩ ?_
    refine zt ?_
    refine uS [.no, .no, .no] True [(1, iV z), (6, iV (max (ka1 (kB l n) (i * 2) 0) (min (ka1 (kB l n) ((i * 2) + 1) 0) z))), (7, bV true), (12, sV .i64 (kB l n) (kQ l n)), (13, uV (kQ l n)), (14, uV i)] trivial ?_
    refine uS [.w, .no] ((-9223372036854775808) ≤ ((i : Int) + 1) ∧ ((i : Int) + 1) ≤ 9223372036854775807) [(1, iV z), (6, iV (max (ka1 (kB l n) (i * 2) 0) (min (ka1 (kB l n) ((i * 2) + 1) 0) z))), (7, bV true), (12, sV .i64 (kB l n) (kQ l n)), (13, uV (kQ l n)), (14, iV (↑i + 1))] ⟨by omega, by omega⟩ ?_
    exact kW ⟨(((i + 1) : Nat), ((max (ka1 (kB l n) (i * 2) 0) (min (ka1 (kB l n) ((i * 2) + 1) 0) z)) : Int), (true : Bool)), ⟨vH, (by first | exact hN.first (kV hl) zo (by show _ = max _ (min _ z); first | (simp only; done) | (simp only; omega) | omega) | exact hN.near (kV hl) zo (by show _ = max _ (min _ z); first | (simp only; done) | (simp only; omega) | omega) zo | exact hN.far (kV hl) zo (by assumption) (by show _ = max _ (min _ z); first | (simp only; done) | (simp only; omega) | omega))⟩⟩ [] (P := (kO z) ∧ (kO (max (ka1 (kB l n) (i * 2) 0) (min (ka1 (kB l n) ((i * 2) + 1) 0) z))) ∧ ((true) = true) ∧ (kM (dI .i64 (kB l n))) ∧ (kH (kQ l n)) ∧ (kO (kQ l n : Int)) ∧ (((((i + 1) : Nat) : Int) : Int) = ((i : Int) + 1))) zk ⟨rfl, rfl, cQ, rfl, rfl, rfl, aI⟩ (show kQ l n - (i + 1) < kQ l n - i from bA)
   ·have hx11 : ((0 : Int) ≤ (bG (max (ka1 (kB l n) (i * 2) 0) (min (ka1 (kB l n) ((i * 2) + 1) 0) z)) z)) := fJ
    have hx12 : ((0 : Int) ≤ (bG y z)) := fJ
    refine kL (qA 5 [.call [] (qY (D.lit (.int .u64 (bG (max (ka1 (kB l n) (i * 2) 0) (min (ka1 (kB l n) ((i * 2) + 1) 0) z)) z)))) [] 0 [] none, .no, .no, .call [] (qY (D.lit (.int .u64 (bG y z)))) [] 0 [] none, .b false, .no]) ((_) ∧ (_) ∧ (¬ ((bG (max (ka1 (kB l n) (i * 2) 0) (min (ka1 (kB l n) ((i * 2) + 1) 0) z)) z) < (bG y z)))) [(1, iV z), (6, iV y), (7, bV true), (10, iV (max (ka1 (kB l n) (i * 2) 0) (min (ka1 (kB l n) ((i * 2) + 1) 0) z))), (12, sV .i64 (kB l n) (kQ l n)), (13, uV (kQ l n)), (14, uV i), (35, bV false)] [] 2 ⟨(s9 (max (ka1 (kB l n) (i * 2) 0) (min (ka1 (kB l n) ((i * 2) + 1) 0) z)) z p7 zo), (s9 y z zo zo), zo⟩ ?_
    refine uB ?_
    refine uS [.w, .no] ((-9223372036854775808) ≤ ((i : Int) + 1) ∧ ((i : Int) + 1) ≤ 9223372036854775807) [(1, iV z), (6, iV y), (7, bV true), (12, sV .i64 (kB l n) (kQ l n)), (13, uV (kQ l n)), (14, iV (↑i + 1))] ⟨by omega, by omega⟩ ?_
    exact kW ⟨(((i + 1) : Nat), (y : Int), (true : Bool)), ⟨vH, (by first | exact hN.first (kV hl) zo (by show _ = max _ (min _ z); first | (simp only; done) | (simp only; omega) | omega) | exact hN.near (kV hl) zo (by show _ = max _ (min _ z); first | (simp only; done) | (simp only; omega) | omega) zo | exact hN.far (kV hl) zo (by assumption) (by show _ = max _ (min _ z); first | (simp only; done) | (simp only; omega) | omega))⟩⟩ [] (P := (kO z) ∧ (kO y) ∧ ((true) = true) ∧ (kM (dI .i64 (kB l n))) ∧ (kH (kQ l n)) ∧ (kO (kQ l n : Int)) ∧ (((((i + 1) : Nat) : Int) : Int) = ((i : Int) + 1))) zk ⟨rfl, rfl, cQ, rfl, rfl, rfl, aI⟩ (show kQ l n - (i + 1) < kQ l n - i from bA)
  ·subst hx5
   refine kL (qA 4 []) True [(1, iV z), (6, iV y), (7, bV false), (10, iV (max (ka1 (kB l n) (i * 2) 0) (min (ka1 (kB l n) ((i * 2) + 1) 0) z))), (12, sV .i64 (kB l n) (kQ l n)), (13, uV (kQ l n)), (14, uV i), (35, bV true)] [] 2 trivial ?_
   refine zt ?_
   refine uS [.no, .no, .no] True [(1, iV z), (6, iV (max (ka1 (kB l n) (i * 2) 0) (min (ka1 (kB l n) ((i * 2) + 1) 0) z))), (7, bV true), (12, sV .i64 (kB l n) (kQ l n)), (13, uV (kQ l n)), (14, uV i)] trivial ?_
   refine uS [.w, .no] ((-9223372036854775808) ≤ ((i : Int) + 1) ∧ ((i : Int) + 1) ≤ 9223372036854775807) [(1, iV z), (6, iV (max (ka1 (kB l n) (i * 2) 0) (min (ka1 (kB l n) ((i * 2) + 1) 0) z))), (7, bV true), (12, sV .i64 (kB l n) (kQ l n)), (13, uV (kQ l n)), (14, iV (↑i + 1))] ⟨by omega, by omega⟩ ?_
   exact kW ⟨(((i + 1) : Nat), ((max (ka1 (kB l n) (i * 2) 0) (min (ka1 (kB l n) ((i * 2) + 1) 0) z)) : Int), (true : Bool)), ⟨vH, (by first | exact hN.first (kV hl) zo (by show _ = max _ (min _ z); first | (simp only; done) | (simp only; omega) | omega) | exact hN.near (kV hl) zo (by show _ = max _ (min _ z); first | (simp only; done) | (simp only; omega) | omega) zo | exact hN.far (kV hl) zo (by assumption) (by show _ = max _ (min _ z); first | (simp only; done) | (simp only; omega) | omega))⟩⟩ [] (P := (kO z) ∧ (kO (max (ka1 (kB l n) (i * 2) 0) (min (ka1 (kB l n) ((i * 2) + 1) 0) z))) ∧ ((true) = true) ∧ (kM (dI .i64 (kB l n))) ∧ (kH (kQ l n)) ∧ (kO (kQ l n : Int)) ∧ (((((i + 1) : Nat) : Int) : Int) = ((i : Int) + 1))) zk ⟨rfl, rfl, cQ, rfl, rfl, rfl, aI⟩ (show kQ l n - (i + 1) < kQ l n - i from bA)
 ·refine kL [.b false] (¬ ((i : Int) < (kQ l n : Int))) [(1, iV z), (6, iV y), (7, qY (D.lit (.bool (f)))), (12, sV .i64 (kB l n) (kQ l n)), (13, uV (kQ l n)), (14, uV i), (15, bV false)] [] 1 zo ?_
  refine AW.seq ?_
  refine zf ?_
  refine AW.exit ?_
  refine kL (qA 4 []) True [(4, iV y), (5, qY (D.lit (.bool (f))))] [] 1 trivial ?_
  obtain ⟨hz1, hz2⟩ := hN.fin (kV hl) zo
  refine AW.ret ?_
  exact kD (.inr rfl) [] (P := (((q8 z (kB l n)) : Int) = y) ∧ ((nrF z (kB l n)) = (f))) zk ⟨j3, hz2⟩
end Go.Proofs.YtcfmjpnffembpaaGreat
