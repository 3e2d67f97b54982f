/- Sets of integers: B. No statement is proved here. -/
import Derived.Test.YtbicifcgghmhaaaGreatZL09A
namespace Go.Proofs.YtbicifcgghmhaaaGreat
open Go.ChangeShapes Go.WideShapes Go.ChangeAt Go.RowKit
open List renaming drop → ka3, drop_drop → ke4, drop_zero → kd3, getD → ka1, length → ka0, length_append → ka8, length_cons → kb0, length_drop → kb6, length_map → kc3, length_nil → kb2, length_replicate → kb5, length_reverse → kc0, length_set → kc1, length_take → kb4, set → kj7, take → ka5, take_of_length_le → kb7
open Nat renaming le_of_ble_eq_true → ka4, mul_one → kc6
set_option linter.unusedVariables false
set_option linter.unusedSimpArgs false
set_option maxHeartbeats 4000000
set_option maxRecDepth 100000
theorem yM {p : Prop} (h : p := by (simp only [y5, qQ, ka8, kb0, kb2, kb4, kb6, kb5, kc1, kc3, kc0, kc6] <;> omega)) : p := h
theorem rB {p : Prop} (h : p := by simp only [s6, l3, Nat.zero_mul, Nat.one_mul, kd3]) : p := h
theorem zY {p : Prop} (h : p := by (simp only [y5, ka8, kb0, kb2, kc1] <;> omega)) : p := h
abbrev eR (l : List Int) (i : Nat) : BC := .ds [iD (ka1 l (i * 2) 0), iD (ka1 l ((i * 2) + 1) 0)]
theorem u0w (l : List Int) (n : Nat) (hl : ka0 l = n * 2) (hb : n ≤ 1000000) (hR : RG l n) : Fun 127 [.c (.d (D.sl (dI .i64 l) n))] (kF []) 0 (sV .i64 (tY l) (lX l)) (kF []) 0 := by
 refine Fun.mk (n := 86) Tryz.func127 rfl rfl (ka4 rfl) ?_
 intro cx hcx
 refine kH [.no] True [(0, sV .i64 l n)] [] 0 trivial ?_
 refine kS [.no, .no] True [(0, sV .i64 l n), (3, nV), (4, nV)] trivial ?_
 refine AW.seq ?_
 refine kS [.no, .no, .no] True [(3, nV), (4, nV), (11, sV .i64 l n), (12, uV n), (13, iV 0)] trivial ?_
 refine AW.block ?_
 refine AW.adoptS 3 2 95 rfl ?_
 refine k8 0 hcx (fun (x : {x : Nat × List Int // match x with | (i, o) => (i ≤ n) ∧ (SI l i o) ∧ (ka0 o = i * 2)}) => match x with | ⟨(i, o), _⟩ => (⟨[(3, oV 1 0 i 2), (4, nV), (11, sV .i64 l n), (12, uV n), (13, uV i)], [(1, some (95, .ds (dI .i64 o)))], 2⟩ : ES)) (fun x => match x with | ⟨(i, o), _⟩ => n - i) ⟨((0 : Nat), (([] : List Int) : List Int)), ⟨zo, (SI.zero l), rfl⟩⟩ [(1, 0)] (P := (kG 0) ∧ (kG 0) ∧ ((.slice none 0 0 : Value) = .slice none 0 0) ∧ (kJ (dI .i64 l)) ∧ (kG n) ∧ (kM (n : Int)) ∧ (kM 0) ∧ (((dI .i64 ([] : List Int)) : List D) = ([] : List D))) zk ⟨rfl, rfl, rfl, rfl, rfl, rfl, rfl, (by rfl)⟩ ?_
 rintro ⟨⟨i, o⟩, hinv0⟩
 obtain ⟨hi, hS, ho⟩ : (i ≤ n) ∧ (SI l i o) ∧ (ka0 o = i * 2) := hinv0
 refine qW (l := [(3, oV 1 0 i 2), (4, nV), (11, sV .i64 l n), (12, uV n), (13, uV i)]) (g := [(1, some (95, .ds (dI .i64 o)))]) (nx := 2) rfl rfl rfl ?_
 by_cases hx1 : (((i : Nat) : Int) < ((n : Nat) : Int))
 ·refine kH [.b true] (((i : Int) < (n : Int))) [(3, oV 1 0 i 2), (4, nV), (11, sV .i64 l n), (12, uV n), (13, uV i), (14, bV true)] [(1, some (95, .ds (dI .i64 o)))] 2 zo ?_
  refine AW.seq ?_
  refine vL ?_
  refine AW.seq ?_
  refine AW.block ?_
  refine kH [.n i, .ds [iD (ka1 l (i * 2) 0), iD (ka1 l ((i * 2) + 1) 0)], .no, .no] ((kM (i : Int)) ∧ (i < n) ∧ (ka5 2 (ka3 (i * 2) (dI .i64 l)) = [iD (ka1 l (i * 2) 0), iD (ka1 l ((i * 2) + 1) 0)]) ∧ (([iD (ka1 l (i * 2) 0), iD (ka1 l ((i * 2) + 1) 0)] : List D).length = 2)) [(3, oV 1 0 i 2), (4, nV), (6, rV 2 0), (11, sV .i64 l n), (12, uV n), (13, uV i)] [(1, some (95, .ds (dI .i64 o))), (2, some (95, (eR l i)))] 3 ⟨rfl, zo, (bP .i64 l (i * 2) 2 zo), rfl⟩ ?_
  refine AW.freeze 1 (l' := [(3, sV .i64 o i), (4, nV), (6, rV 2 0), (11, sV .i64 l n), (12, uV n), (13, uV i)]) (g' := [(2, some (95, (eR l i)))]) rfl (FzS.cons rfl (.e (.c (@FzC.own 1 ((dI .i64 o) : List D) 0 i 2 true ((dI .i64 o) : List D) (by rw [kd3, kb7 (by (simp only [y5, qQ, ka8, kb0, kb2, kb4, kb6, kb5, kc1, kc3, kc0, kc6] <;> omega))]) yM))) (FzS.cons rfl (.same _) (FzS.cons rfl (.same _) (FzS.cons rfl (.same _) (FzS.cons rfl (.same _) (FzS.cons rfl (.same _) FzS.nil)))))) (uI rfl rfl FzG.nil) ?_
  refine kH [.no, .no, .no] True [(3, sV .i64 o i), (4, nV), (6, rV 2 0), (7, uV i), (11, sV .i64 l n), (12, uV n), (13, uV i)] [(2, some (95, (eR l i)))] 3 trivial ?_
  refine AW.seq ?_
  refine AW.block ?_
  refine k8 0 hcx (fun (x : {x : Nat // match x with | k => (k ≤ i) ∧ (∀ j, k ≤ j → j < i → ka1 l (i * 2) 0 < ka1 o (j * 2) 0)}) => match x with | ⟨k, _⟩ => (⟨[(3, sV .i64 o i), (4, nV), (6, rV 2 0), (7, uV k), (11, sV .i64 l n), (12, uV n), (13, uV i)], [(2, some (95, (eR l i)))], 3⟩ : ES)) (fun x => match x with | ⟨k, _⟩ => k) ⟨(i : Nat), ⟨zo, (fun j h8 h9 => by omega)⟩⟩ [] (P := (kJ (dI .i64 o)) ∧ (kG i) ∧ ((.slice none 0 0 : Value) = .slice none 0 0) ∧ (kG 0) ∧ (kM (i : Int)) ∧ (kJ (dI .i64 l)) ∧ (kG n) ∧ (kM (n : Int)) ∧ (kM (i : Int)) ∧ (kJ [iD (ka1 l (i * 2) 0), iD (ka1 l ((i * 2) + 1) 0)])) zk ⟨rfl, rfl, rfl, rfl, rfl, rfl, rfl, rfl, rfl, rfl⟩ ?_
  rintro ⟨k, hinv1⟩
  obtain ⟨hk, hk2⟩ : (k ≤ i) ∧ (∀ j, k ≤ j → j < i → ka1 l (i * 2) 0 < ka1 o (j * 2) 0) := hinv1
  refine qW (l := [(3, sV .i64 o i), (4, nV), (6, rV 2 0), (7, uV k), (11, sV .i64 l n), (12, uV n), (13, uV i)]) (g := [(2, some (95, (eR l i)))]) (nx := 3) rfl rfl rfl ?_
  refine AW.seq ?_
  by_cases hx2 : ((0 : Int) < ((k : Nat) : Int))
  ·by_cases hx3 : ((ka1 l (i * 2) 0) < (ka1 o ((k - 1) * 2) 0))
   ·refine kH [.no, .b true, .no, .no, .no, .w, .n (k - 1), .no, .d (D.lit (.int .i64 (ka1 o ((k - 1) * 2) 0))), .no, .no, .b true, .no] ((((0 : Int) < (k : Int))) ∧ ((-9223372036854775808) ≤ ((k : Int) - 1) ∧ ((k : Int) - 1) ≤ 9223372036854775807) ∧ ((((k : Int) - 1) : Int) = (((k - 1) : Nat) : Int)) ∧ ((k - 1) < i) ∧ ((ka3 0 (ka3 ((k - 1) * 2) (dI .i64 o)))[0]? = some (D.lit (.int .i64 (ka1 o ((k - 1) * 2) 0)))) ∧ (((ka1 l (i * 2) 0) < (ka1 o ((k - 1) * 2) 0)))) [(3, sV .i64 o i), (4, nV), (6, rV 2 0), (7, uV k), (11, sV .i64 l n), (12, uV n), (13, uV i), (31, bV true)] [(2, some (95, (eR l i)))] 3 ⟨zo, ⟨by omega, by omega⟩, zo, zo, (by (rw [ke4]; exact yF _ _ _ zo)), zo⟩ ?_
    refine vL ?_
    refine AW.block ?_
    refine yA [.no, .w, .no] ((-9223372036854775808) ≤ ((k : Int) - 1) ∧ ((k : Int) - 1) ≤ 9223372036854775807) [(3, sV .i64 o i), (4, nV), (6, rV 2 0), (7, iV (↑k - 1)), (11, sV .i64 l n), (12, uV n), (13, uV i)] ⟨by omega, by omega⟩ ?_
    exact kW ⟨((k - 1) : Nat), ⟨zo, (k7v hk2 zo zo)⟩⟩ [] (P := (kJ (dI .i64 o)) ∧ (kG i) ∧ ((.slice none 0 0 : Value) = .slice none 0 0) ∧ (kG 0) ∧ (((((k - 1) : Nat) : Int) : Int) = ((k : Int) - 1)) ∧ (kJ (dI .i64 l)) ∧ (kG n) ∧ (kM (n : Int)) ∧ (kM (i : Int)) ∧ (kJ [iD (ka1 l (i * 2) 0), iD (ka1 l ((i * 2) + 1) 0)])) zk ⟨rfl, rfl, rfl, rfl, zo, rfl, rfl, rfl, rfl, rfl⟩ (show (k - 1) < k from zo)
   ·refine kH [.no, .b true, .no, .no, .no, .w, .n (k - 1), .no, .d (D.lit (.int .i64 (ka1 o ((k - 1) * 2) 0))), .no, .no, .b false, .no] ((((0 : Int) < (k : Int))) ∧ ((-9223372036854775808) ≤ ((k : Int) - 1) ∧ ((k : Int) - 1) ≤ 9223372036854775807) ∧ ((((k : Int) - 1) : Int) = (((k - 1) : Nat) : Int)) ∧ ((k - 1) < i) ∧ ((ka3 0 (ka3 ((k - 1) * 2) (dI .i64 o)))[0]? = some (D.lit (.int .i64 (ka1 o ((k - 1) * 2) 0)))) ∧ (¬ ((ka1 l (i * 2) 0) < (ka1 o ((k - 1) * 2) 0)))) [(3, sV .i64 o i), (4, nV), (6, rV 2 0), (7, uV k), (11, sV .i64 l n), (12, uV n), (13, uV i), (31, bV false)] [(2, some (95, (eR l i)))] 3 ⟨zo, ⟨by omega, by omega⟩, zo, zo, (by (rw [ke4]; exact yF _ _ _ zo)), zo⟩ ?_
    refine zf ?_
    refine AW.exit ?_
    refine aC [.no, .no, .sls 0 k k (dI .i64 (ka5 (k * 2) o)), .ap none k (dI .i64 (ka5 (k * 2) o)), .no, .no, .ap none (k + 1) (dI .i64 ((ka5 (k * 2) o) ++ ([(ka1 l (i * 2) 0), (ka1 l ((i * 2) + 1) 0)] : List Int))), .no, .no, .sls k i (i - k) (dI .i64 (ka5 ((i - k) * 2) (ka3 (k * 2) o))), .ap none ((k + 1) + (i - k)) (dI .i64 (((ka5 (k * 2) o) ++ ([(ka1 l (i * 2) 0), (ka1 l ((i * 2) + 1) 0)] : List Int)) ++ (ka5 ((i - k) * 2) (ka3 (k * 2) o)))), .no] ((kG 0) ∧ (kM (k : Int)) ∧ ((0 : Nat) ≤ k) ∧ (k ≤ i) ∧ (k - 0 = k) ∧ (ka5 (k * 2) (ka3 (0 * 2) (dI .i64 o)) = (dI .i64 (ka5 (k * 2) o))) ∧ ((dI .i64 (ka5 (k * 2) o)).length = k * 2) ∧ (k * 16 ≤ 140737488355328) ∧ (k = k) ∧ (kJ (dI .i64 (ka5 (k * 2) o))) ∧ ([iD (ka1 l (i * 2) 0), iD (ka1 l ((i * 2) + 1) 0)].length = 1 * 2) ∧ (((dI .i64 (ka5 (k * 2) o)) : List D).length = k * 2) ∧ ((k + 1) * 16 ≤ 140737488355328) ∧ (k + 1 = (k + 1)) ∧ (((dI .i64 (ka5 (k * 2) o)) : List D) ++ [iD (ka1 l (i * 2) 0), iD (ka1 l ((i * 2) + 1) 0)] = (dI .i64 ((ka5 (k * 2) o) ++ ([(ka1 l (i * 2) 0), (ka1 l ((i * 2) + 1) 0)] : List Int)))) ∧ (kM (k : Int)) ∧ (i = i) ∧ (k ≤ i) ∧ (i ≤ i) ∧ (i - k = (i - k)) ∧ (ka5 ((i - k) * 2) (ka3 (k * 2) (dI .i64 o)) = (dI .i64 (ka5 ((i - k) * 2) (ka3 (k * 2) o)))) ∧ ((dI .i64 (ka5 ((i - k) * 2) (ka3 (k * 2) o))).length = (i - k) * 2) ∧ (((dI .i64 ((ka5 (k * 2) o) ++ ([(ka1 l (i * 2) 0), (ka1 l ((i * 2) + 1) 0)] : List Int))) : List D).length = (k + 1) * 2) ∧ (((k + 1) + (i - k)) * 16 ≤ 140737488355328) ∧ ((k + 1) + (i - k) = ((k + 1) + (i - k))) ∧ (((dI .i64 ((ka5 (k * 2) o) ++ ([(ka1 l (i * 2) 0), (ka1 l ((i * 2) + 1) 0)] : List Int))) : List D) ++ (dI .i64 (ka5 ((i - k) * 2) (ka3 (k * 2) o))) = (dI .i64 (((ka5 (k * 2) o) ++ ([(ka1 l (i * 2) 0), (ka1 l ((i * 2) + 1) 0)] : List Int)) ++ (ka5 ((i - k) * 2) (ka3 (k * 2) o)))))) [(3, oV 6 0 ((k + 1) + (i - k)) 2), (4, nV), (11, sV .i64 l n), (12, uV n), (13, uV i)] [(6, some (95, .ds (dI .i64 (((ka5 (k * 2) o) ++ ([(ka1 l (i * 2) 0), (ka1 l ((i * 2) + 1) 0)] : List Int)) ++ (ka5 ((i - k) * 2) (ka3 (k * 2) o))))))] 7 ⟨rfl, rfl, zo, zo, zo, rB, yM, zo, rfl, rfl, yM, yM, zo, zo, (a8 .i64 (ka5 (k * 2) o) ([(ka1 l (i * 2) 0), (ka1 l ((i * 2) + 1) 0)] : List Int)), rfl, rfl, zo, zo, zo, rB, yM, yM, zo, zo, (a8 .i64 ((ka5 (k * 2) o) ++ ([(ka1 l (i * 2) 0), (ka1 l ((i * 2) + 1) 0)] : List Int)) (ka5 ((i - k) * 2) (ka3 (k * 2) o)))⟩ ?_
    refine yA [.w, .no] ((-9223372036854775808) ≤ ((i : Int) + 1) ∧ ((i : Int) + 1) ≤ 9223372036854775807) [(3, oV 6 0 ((k + 1) + (i - k)) 2), (4, nV), (11, sV .i64 l n), (12, uV n), (13, iV (↑i + 1))] ⟨by omega, by omega⟩ ?_
    exact kW ⟨(((i + 1) : Nat), ((((ka5 (k * 2) o) ++ ([(ka1 l (i * 2) 0), (ka1 l ((i * 2) + 1) 0)] : List Int)) ++ (ka5 ((i - k) * 2) (ka3 (k * 2) o))) : List Int)), ⟨zo, (hS.step hl zo rfl rfl zo (fun j h8 h9 => hk2 j h8 zo) zo (by (congr 1; exact (kb7 (by rw [kb6]; omega))))), (by simp only [y5, ka8, kb0, kb2, kb4, kb6] <;> omega)⟩⟩ [(1, 6)] (P := (kG 0) ∧ (((i + 1) : Nat) = ((k + 1) + (i - k))) ∧ ((.slice none 0 0 : Value) = .slice none 0 0) ∧ (kJ (dI .i64 l)) ∧ (kG n) ∧ (kM (n : Int)) ∧ (((((i + 1) : Nat) : Int) : Int) = ((i : Int) + 1)) ∧ (kJ (dI .i64 (((ka5 (k * 2) o) ++ ([(ka1 l (i * 2) 0), (ka1 l ((i * 2) + 1) 0)] : List Int)) ++ (ka5 ((i - k) * 2) (ka3 (k * 2) o)))))) zk ⟨rfl, zo, rfl, rfl, rfl, rfl, (by rfl), rfl⟩ (show n - (i + 1) < n - i from zo)
  ·refine kH [.no, .b false, .no, .no] (¬ ((0 : Int) < (k : Int))) [(3, sV .i64 o i), (4, nV), (6, rV 2 0), (7, uV k), (11, sV .i64 l n), (12, uV n), (13, uV i), (31, bV false)] [(2, some (95, (eR l i)))] 3 zo ?_
   refine zf ?_
   refine AW.exit ?_
   refine aC [.no, .no, .sls 0 k k (dI .i64 (ka5 (k * 2) o)), .ap none k (dI .i64 (ka5 (k * 2) o)), .no, .no, .ap none (k + 1) (dI .i64 ((ka5 (k * 2) o) ++ ([(ka1 l (i * 2) 0), (ka1 l ((i * 2) + 1) 0)] : List Int))), .no, .no, .sls k i (i - k) (dI .i64 (ka5 ((i - k) * 2) (ka3 (k * 2) o))), .ap none ((k + 1) + (i - k)) (dI .i64 (((ka5 (k * 2) o) ++ ([(ka1 l (i * 2) 0), (ka1 l ((i * 2) + 1) 0)] : List Int)) ++ (ka5 ((i - k) * 2) (ka3 (k * 2) o)))), .no] ((kG 0) ∧ (kM (k : Int)) ∧ ((0 : Nat) ≤ k) ∧ (k ≤ i) ∧ (k - 0 = k) ∧ (ka5 (k * 2) (ka3 (0 * 2) (dI .i64 o)) = (dI .i64 (ka5 (k * 2) o))) ∧ ((dI .i64 (ka5 (k * 2) o)).length = k * 2) ∧ (k * 16 ≤ 140737488355328) ∧ (k = k) ∧ (kJ (dI .i64 (ka5 (k * 2) o))) ∧ ([iD (ka1 l (i * 2) 0), iD (ka1 l ((i * 2) + 1) 0)].length = 1 * 2) ∧ (((dI .i64 (ka5 (k * 2) o)) : List D).length = k * 2) ∧ ((k + 1) * 16 ≤ 140737488355328) ∧ (k + 1 = (k + 1)) ∧ (((dI .i64 (ka5 (k * 2) o)) : List D) ++ [iD (ka1 l (i * 2) 0), iD (ka1 l ((i * 2) + 1) 0)] = (dI .i64 ((ka5 (k * 2) o) ++ ([(ka1 l (i * 2) 0), (ka1 l ((i * 2) + 1) 0)] : List Int)))) ∧ (kM (k : Int)) ∧ (i = i) ∧ (k ≤ i) ∧ (i ≤ i) ∧ (i - k = (i - k)) ∧ (ka5 ((i - k) * 2) (ka3 (k * 2) (dI .i64 o)) = (dI .i64 (ka5 ((i - k) * 2) (ka3 (k * 2) o)))) ∧ ((dI .i64 (ka5 ((i - k) * 2) (ka3 (k * 2) o))).length = (i - k) * 2) ∧ (((dI .i64 ((ka5 (k * 2) o) ++ ([(ka1 l (i * 2) 0), (ka1 l ((i * 2) + 1) 0)] : List Int))) : List D).length = (k + 1) * 2) ∧ (((k + 1) + (i - k)) * 16 ≤ 140737488355328) ∧ ((k + 1) + (i - k) = ((k + 1) + (i - k))) ∧ (((dI .i64 ((ka5 (k * 2) o) ++ ([(ka1 l (i * 2) 0), (ka1 l ((i * 2) + 1) 0)] : List Int))) : List D) ++ (dI .i64 (ka5 ((i - k) * 2) (ka3 (k * 2) o))) = (dI .i64 (((ka5 (k * 2) o) ++ ([(ka1 l (i * 2) 0), (ka1 l ((i * 2) + 1) 0)] : List Int)) ++ (ka5 ((i - k) * 2) (ka3 (k * 2) o)))))) [(3, oV 6 0 ((k + 1) + (i - k)) 2), (4, nV), (11, sV .i64 l n), (12, uV n), (13, uV i)] [(6, some (95, .ds (dI .i64 (((ka5 (k * 2) o) ++ ([(ka1 l (i * 2) 0), (ka1 l ((i * 2) + 1) 0)] : List Int)) ++ (ka5 ((i - k) * 2) (ka3 (k * 2) o))))))] 7 ⟨rfl, rfl, zo, zo, zo, rB, yM, zo, rfl, rfl, yM, yM, zo, zo, (a8 .i64 (ka5 (k * 2) o) ([(ka1 l (i * 2) 0), (ka1 l ((i * 2) + 1) 0)] : List Int)), rfl, rfl, zo, zo, zo, rB, yM, yM, zo, zo, (a8 .i64 ((ka5 (k * 2) o) ++ ([(ka1 l (i * 2) 0), (ka1 l ((i * 2) + 1) 0)] : List Int)) (ka5 ((i - k) * 2) (ka3 (k * 2) o)))⟩ ?_
   refine yA [.w, .no] ((-9223372036854775808) ≤ ((i : Int) + 1) ∧ ((i : Int) + 1) ≤ 9223372036854775807) [(3, oV 6 0 ((k + 1) + (i - k)) 2), (4, nV), (11, sV .i64 l n), (12, uV n), (13, iV (↑i + 1))] ⟨by omega, by omega⟩ ?_
   exact kW ⟨(((i + 1) : Nat), ((((ka5 (k * 2) o) ++ ([(ka1 l (i * 2) 0), (ka1 l ((i * 2) + 1) 0)] : List Int)) ++ (ka5 ((i - k) * 2) (ka3 (k * 2) o))) : List Int)), ⟨zo, (hS.step hl zo rfl rfl zo (fun j h8 h9 => hk2 j h8 zo) zo (by (congr 1; exact (kb7 (by rw [kb6]; omega))))), (by simp only [y5, ka8, kb0, kb2, kb4, kb6] <;> omega)⟩⟩ [(1, 6)] (P := (kG 0) ∧ (((i + 1) : Nat) = ((k + 1) + (i - k))) ∧ ((.slice none 0 0 : Value) = .slice none 0 0) ∧ (kJ (dI .i64 l)) ∧ (kG n) ∧ (kM (n : Int)) ∧ (((((i + 1) : Nat) : Int) : Int) = ((i : Int) + 1)) ∧ (kJ (dI .i64 (((ka5 (k * 2) o) ++ ([(ka1 l (i * 2) 0), (ka1 l ((i * 2) + 1) 0)] : List Int)) ++ (ka5 ((i - k) * 2) (ka3 (k * 2) o)))))) zk ⟨rfl, zo, rfl, rfl, rfl, rfl, (by rfl), rfl⟩ (show n - (i + 1) < n - i from zo)
 ·refine kH [.b false] (¬ ((i : Int) < (n : Int))) [(3, oV 1 0 i 2), (4, nV), (11, sV .i64 l n), (12, uV n), (13, uV i), (14, bV false)] [(1, some (95, .ds (dI .i64 o)))] 2 zo ?_
  refine AW.seq ?_
  refine zf ?_
  refine AW.exit ?_
  refine AW.seq ?_
  obtain rfl : n = i := (by omega)
  have hRo : RG o n := hS.rg hl (by omega) hR
  refine kH [.no, .no, .no] True [(4, nV), (46, oV 1 0 n 2), (47, uV n), (48, iV 0)] [(1, some (95, .ds (dI .i64 o)))] 2 trivial ?_
  refine AW.block ?_
  refine AW.adoptS 4 2 95 rfl ?_
  refine k8 0 hcx (fun (x : {x : Nat × Nat × List Int // match x with | (i2, k2, u) => (i2 ≤ n ∧ k2 ≤ i2) ∧ (MG o i2 k2 u) ∧ (ka0 u = k2 * 2)}) => match x with | ⟨(i2, k2, u), _⟩ => (⟨[(4, oV 3 0 k2 2), (46, oV 1 0 n 2), (47, uV n), (48, uV i2)], [(1, some (95, .ds (dI .i64 o))), (3, some (95, .ds (dI .i64 u)))], 4⟩ : ES)) (fun x => match x with | ⟨(i2, k2, u), _⟩ => n - i2) ⟨((0 : Nat), (0 : Nat), (([] : List Int) : List Int)), ⟨zo, (MG.zero _), rfl⟩⟩ [(3, 2)] (P := (kG 0) ∧ (kG 0) ∧ (kG 0) ∧ (kG n) ∧ (kM (n : Int)) ∧ (kM 0) ∧ (kJ (dI .i64 o)) ∧ (((dI .i64 ([] : List Int)) : List D) = ([] : List D))) zk ⟨rfl, rfl, rfl, rfl, rfl, rfl, rfl, (by rfl)⟩ ?_
  rintro ⟨⟨i2, k2, u⟩, hinv2⟩
  obtain ⟨hi2, hM, hu⟩ : (i2 ≤ n ∧ k2 ≤ i2) ∧ (MG o i2 k2 u) ∧ (ka0 u = k2 * 2) := hinv2
  refine qW (l := [(4, oV 3 0 k2 2), (46, oV 1 0 n 2), (47, uV n), (48, uV i2)]) (g := [(1, some (95, .ds (dI .i64 o))), (3, some (95, .ds (dI .i64 u)))]) (nx := 4) rfl rfl rfl ?_
  by_cases hx4 : (((i2 : Nat) : Int) < ((n : Nat) : Int))
  ·refine kH [.b true] (((i2 : Int) < (n : Int))) [(4, oV 3 0 k2 2), (46, oV 1 0 n 2), (47, uV n), (48, uV i2), (49, bV true)] [(1, some (95, .ds (dI .i64 o))), (3, some (95, .ds (dI .i64 u)))] 4 zo ?_
   refine AW.seq ?_
   refine vL ?_
   refine AW.seq ?_
   refine AW.block ?_
   refine kH [.n2 i2 (i2 * 2), .ds [iD (ka1 o (i2 * 2) 0), iD (ka1 o ((i2 * 2) + 1) 0)], .no, .no] ((kM (i2 : Int)) ∧ (i2 < n) ∧ ((0 : Nat) + i2 * 2 = (i2 * 2)) ∧ (ka5 2 (ka3 (i2 * 2) (dI .i64 o)) = [iD (ka1 o (i2 * 2) 0), iD (ka1 o ((i2 * 2) + 1) 0)]) ∧ (([iD (ka1 o (i2 * 2) 0), iD (ka1 o ((i2 * 2) + 1) 0)] : List D).length = 2)) [(4, oV 3 0 k2 2), (9, rV 4 0), (46, oV 1 0 n 2), (47, uV n), (48, uV i2)] [(1, some (95, .ds (dI .i64 o))), (3, some (95, .ds (dI .i64 u))), (4, some (95, .ds [iD (ka1 o (i2 * 2) 0), iD (ka1 o ((i2 * 2) + 1) 0)]))] 5 ⟨rfl, zo, zo, (bP .i64 o (i2 * 2) 2 zo), rfl⟩ ?_
   refine kS [.no, .no, .w, .no] ((-9223372036854775808) ≤ ((k2 : Int) - 1) ∧ ((k2 : Int) - 1) ≤ 9223372036854775807) [(4, oV 3 0 k2 2), (9, rV 4 0), (10, iV (↑k2 - 1)), (46, oV 1 0 n 2), (47, uV n), (48, uV i2)] ⟨by omega, by omega⟩ ?_
   by_cases hx6 : ((0 : Int) ≤ (((k2 : Nat) : Int) - 1))
   ·by_cases hx9 : (((ka1 o (i2 * 2) 0) - 1) ≤ (ka1 u (((k2 - 1) * 2) + 1) 0))
    ·have hx10 : 0 ≤ ka1 o (i2 * 2) 0 ∧ ka1 o (i2 * 2) 0 ≤ ka1 o (i2 * 2 + 1) 0 ∧ ka1 o (i2 * 2 + 1) 0 ≤ 2147483647 := hRo i2 zo
     have hx11 : 0 ≤ ka1 u ((k2 - 1) * 2 + 1) 0 ∧ ka1 u ((k2 - 1) * 2 + 1) 0 ≤ 2147483647 := hM.hi ho hRo zo
     refine kS [.no, .b true, .no, .no, .no, .w, .no, .no, .n2 (k2 - 1) ((k2 - 1) * 2), .no, .d (D.lit (.int .i64 (ka1 u (((k2 - 1) * 2) + 1) 0))), .b true, .no] ((((0 : Int) ≤ ((k2 : Int) - 1))) ∧ ((-9223372036854775808) ≤ ((ka1 o (i2 * 2) 0) - 1) ∧ ((ka1 o (i2 * 2) 0) - 1) ≤ 9223372036854775807) ∧ ((((k2 : Int) - 1) : Int) = (((k2 - 1) : Nat) : Int)) ∧ ((k2 - 1) < k2) ∧ ((0 : Nat) + (k2 - 1) * 2 = ((k2 - 1) * 2)) ∧ ((dI .i64 u)[(((k2 - 1) * 2) + 1)]? = some (D.lit (.int .i64 (ka1 u (((k2 - 1) * 2) + 1) 0)))) ∧ ((((ka1 o (i2 * 2) 0) - 1) ≤ (ka1 u (((k2 - 1) * 2) + 1) 0)))) [(4, oV 3 0 k2 2), (9, rV 4 0), (10, iV (↑k2 - 1)), (46, oV 1 0 n 2), (47, uV n), (48, uV i2), (67, bV true)] ⟨zo, ⟨by omega, by omega⟩, zo, zo, zo, (k10 _ _ _ zo), zo⟩ ?_
     refine zt ?_
     refine aC (qE 4 [.n2 (k2 - 1) ((k2 - 1) * 2), .no, .d (D.lit (.int .i64 (ka1 u (((k2 - 1) * 2) + 1) 0))), .no, .no, .no, .n2 (k2 - 1) ((k2 - 1) * 2), .no, .ds (dI .i64 (kj7 u (((k2 - 1) * 2) + 1) (max (ka1 u (((k2 - 1) * 2) + 1) 0) (ka1 o ((i2 * 2) + 1) 0))))]) (((((k2 : Int) - 1) : Int) = (((k2 - 1) : Nat) : Int)) ∧ ((k2 - 1) < k2) ∧ ((0 : Nat) + (k2 - 1) * 2 = ((k2 - 1) * 2)) ∧ ((dI .i64 u)[(((k2 - 1) * 2) + 1)]? = some (D.lit (.int .i64 (ka1 u (((k2 - 1) * 2) + 1) 0)))) ∧ ((((k2 : Int) - 1) : Int) = (((k2 - 1) : Nat) : Int)) ∧ ((k2 - 1) < k2) ∧ ((0 : Nat) + (k2 - 1) * 2 = ((k2 - 1) * 2)) ∧ ((((k2 - 1) * 2) + 1) + 1 ≤ (dI .i64 u).length) ∧ (g6 (dI .i64 u) (((k2 - 1) * 2) + 1) [D.lit (.int .i64 (max (ka1 u (((k2 - 1) * 2) + 1) 0) (ka1 o ((i2 * 2) + 1) 0)))] = dI .i64 (kj7 u (((k2 - 1) * 2) + 1) (max (ka1 u (((k2 - 1) * 2) + 1) 0) (ka1 o ((i2 * 2) + 1) 0))))) [(4, oV 3 0 k2 2), (46, oV 1 0 n 2), (47, uV n), (48, uV i2)] [(1, some (95, .ds (dI .i64 o))), (3, some (95, .ds (dI .i64 (kj7 u (((k2 - 1) * 2) + 1) (max (ka1 u (((k2 - 1) * 2) + 1) 0) (ka1 o ((i2 * 2) + 1) 0))))))] 5 ⟨zo, zo, zo, (k10 _ _ _ zo), zo, zo, zo, yM, (u8t _ _ _ _)⟩ ?_
     refine yA [.w, .no] ((-9223372036854775808) ≤ ((i2 : Int) + 1) ∧ ((i2 : Int) + 1) ≤ 9223372036854775807) [(4, oV 3 0 k2 2), (46, oV 1 0 n 2), (47, uV n), (48, iV (↑i2 + 1))] ⟨by omega, by omega⟩ ?_
     exact kW ⟨(((i2 + 1) : Nat), (k2 : Nat), ((kj7 u (((k2 - 1) * 2) + 1) (max (ka1 u (((k2 - 1) * 2) + 1) 0) (ka1 o ((i2 * 2) + 1) 0))) : List Int)), ⟨zo, (by exact hM.join ho zo rfl rfl zo zo rfl rfl), zY⟩⟩ [] (P := (kG 0) ∧ (kG k2) ∧ (kG 0) ∧ (kG n) ∧ (kM (n : Int)) ∧ (((((i2 + 1) : Nat) : Int) : Int) = ((i2 : Int) + 1)) ∧ (kJ (dI .i64 o)) ∧ (kJ (dI .i64 (kj7 u (((k2 - 1) * 2) + 1) (max (ka1 u (((k2 - 1) * 2) + 1) 0) (ka1 o ((i2 * 2) + 1) 0)))))) zk ⟨rfl, rfl, rfl, rfl, rfl, (by rfl), rfl, rfl⟩ (show n - (i2 + 1) < n - i2 from zo)
    ·have hx12 : 0 ≤ ka1 o (i2 * 2) 0 ∧ ka1 o (i2 * 2) 0 ≤ ka1 o (i2 * 2 + 1) 0 ∧ ka1 o (i2 * 2 + 1) 0 ≤ 2147483647 := hRo i2 zo
     have hx13 : 0 ≤ ka1 u ((k2 - 1) * 2 + 1) 0 ∧ ka1 u ((k2 - 1) * 2 + 1) 0 ≤ 2147483647 := hM.hi ho hRo zo
     refine kS [.no, .b true, .no, .no, .no, .w, .no, .no, .n2 (k2 - 1) ((k2 - 1) * 2), .no, .d (D.lit (.int .i64 (ka1 u (((k2 - 1) * 2) + 1) 0))), .b false, .no] ((((0 : Int) ≤ ((k2 : Int) - 1))) ∧ ((-9223372036854775808) ≤ ((ka1 o (i2 * 2) 0) - 1) ∧ ((ka1 o (i2 * 2) 0) - 1) ≤ 9223372036854775807) ∧ ((((k2 : Int) - 1) : Int) = (((k2 - 1) : Nat) : Int)) ∧ ((k2 - 1) < k2) ∧ ((0 : Nat) + (k2 - 1) * 2 = ((k2 - 1) * 2)) ∧ ((dI .i64 u)[(((k2 - 1) * 2) + 1)]? = some (D.lit (.int .i64 (ka1 u (((k2 - 1) * 2) + 1) 0)))) ∧ (¬ (((ka1 o (i2 * 2) 0) - 1) ≤ (ka1 u (((k2 - 1) * 2) + 1) 0)))) [(4, oV 3 0 k2 2), (9, rV 4 0), (10, iV (↑k2 - 1)), (46, oV 1 0 n 2), (47, uV n), (48, uV i2), (67, bV false)] ⟨zo, ⟨by omega, by omega⟩, zo, zo, zo, (k10 _ _ _ zo), zo⟩ ?_
     refine zf ?_
     refine aC [.no, .no, .no, .ap none (k2 + 1) (dI .i64 (u ++ ([(ka1 o (i2 * 2) 0), (ka1 o ((i2 * 2) + 1) 0)] : List Int))), .no] (([iD (ka1 o (i2 * 2) 0), iD (ka1 o ((i2 * 2) + 1) 0)].length = 1 * 2) ∧ (((dI .i64 u) : List D).length = k2 * 2) ∧ ((k2 + 1) * 16 ≤ 140737488355328) ∧ (k2 + 1 = (k2 + 1)) ∧ (((dI .i64 u) : List D) ++ [iD (ka1 o (i2 * 2) 0), iD (ka1 o ((i2 * 2) + 1) 0)] = (dI .i64 (u ++ ([(ka1 o (i2 * 2) 0), (ka1 o ((i2 * 2) + 1) 0)] : List Int))))) [(4, oV 6 0 (k2 + 1) 2), (46, oV 1 0 n 2), (47, uV n), (48, uV i2)] [(1, some (95, .ds (dI .i64 o))), (6, some (95, .ds (dI .i64 (u ++ ([(ka1 o (i2 * 2) 0), (ka1 o ((i2 * 2) + 1) 0)] : List Int)))))] 7 ⟨yM, yM, zo, zo, (a8 .i64 u ([(ka1 o (i2 * 2) 0), (ka1 o ((i2 * 2) + 1) 0)] : List Int))⟩ ?_
     refine yA [.w, .no] ((-9223372036854775808) ≤ ((i2 : Int) + 1) ∧ ((i2 : Int) + 1) ≤ 9223372036854775807) [(4, oV 6 0 (k2 + 1) 2), (46, oV 1 0 n 2), (47, uV n), (48, iV (↑i2 + 1))] ⟨by omega, by omega⟩ ?_
     exact kW ⟨(((i2 + 1) : Nat), ((k2 + 1) : Nat), ((u ++ ([(ka1 o (i2 * 2) 0), (ka1 o ((i2 * 2) + 1) 0)] : List Int)) : List Int)), ⟨zo, (by exact hM.new ho zo rfl rfl zo rfl), zY⟩⟩ [(3, 6)] (P := (kG 0) ∧ (kG (k2 + 1)) ∧ (kG 0) ∧ (kG n) ∧ (kM (n : Int)) ∧ (((((i2 + 1) : Nat) : Int) : Int) = ((i2 : Int) + 1)) ∧ (kJ (dI .i64 o)) ∧ (kJ (dI .i64 (u ++ ([(ka1 o (i2 * 2) 0), (ka1 o ((i2 * 2) + 1) 0)] : List Int))))) zk ⟨rfl, rfl, rfl, rfl, rfl, (by rfl), rfl, rfl⟩ (show n - (i2 + 1) < n - i2 from zo)
   ·have hx14 : 0 ≤ ka1 o (i2 * 2) 0 ∧ ka1 o (i2 * 2) 0 ≤ ka1 o (i2 * 2 + 1) 0 ∧ ka1 o (i2 * 2 + 1) 0 ≤ 2147483647 := hRo i2 zo
    refine kS [.no, .b false, .no, .no] (¬ ((0 : Int) ≤ ((k2 : Int) - 1))) [(4, oV 3 0 k2 2), (9, rV 4 0), (10, iV (↑k2 - 1)), (46, oV 1 0 n 2), (47, uV n), (48, uV i2), (67, bV false)] zo ?_
    refine zf ?_
    refine aC [.no, .no, .no, .ap none (k2 + 1) (dI .i64 (u ++ ([(ka1 o (i2 * 2) 0), (ka1 o ((i2 * 2) + 1) 0)] : List Int))), .no] (([iD (ka1 o (i2 * 2) 0), iD (ka1 o ((i2 * 2) + 1) 0)].length = 1 * 2) ∧ (((dI .i64 u) : List D).length = k2 * 2) ∧ ((k2 + 1) * 16 ≤ 140737488355328) ∧ (k2 + 1 = (k2 + 1)) ∧ (((dI .i64 u) : List D) ++ [iD (ka1 o (i2 * 2) 0), iD (ka1 o ((i2 * 2) + 1) 0)] = (dI .i64 (u ++ ([(ka1 o (i2 * 2) 0), (ka1 o ((i2 * 2) + 1) 0)] : List Int))))) [(4, oV 6 0 (k2 + 1) 2), (46, oV 1 0 n 2), (47, uV n), (48, uV i2)] [(1, some (95, .ds (dI .i64 o))), (6, some (95, .ds (dI .i64 (u ++ ([(ka1 o (i2 * 2) 0), (ka1 o ((i2 * 2) + 1) 0)] : List Int)))))] 7 ⟨yM, yM, zo, zo, (a8 .i64 u ([(ka1 o (i2 * 2) 0), (ka1 o ((i2 * 2) + 1) 0)] : List Int))⟩ ?_
    refine yA [.w, .no] ((-9223372036854775808) ≤ ((i2 : Int) + 1) ∧ ((i2 : Int) + 1) ≤ 9223372036854775807) [(4, oV 6 0 (k2 + 1) 2), (46, oV 1 0 n 2), (47, uV n), (48, iV (↑i2 + 1))] ⟨by omega, by omega⟩ ?_
    exact kW ⟨(((i2 + 1) : Nat), ((k2 + 1) : Nat), ((u ++ ([(ka1 o (i2 * 2) 0), (ka1 o ((i2 * 2) + 1) 0)] : List Int)) : List Int)), ⟨zo, (by exact hM.new ho zo rfl rfl zo rfl), zY⟩⟩ [(3, 6)] (P := (kG 0) ∧ (kG (k2 + 1)) ∧ (kG 0) ∧ (kG n) ∧ (kM (n : Int)) ∧ (((((i2 + 1) : Nat) : Int) : Int) = ((i2 : Int) + 1)) ∧ (kJ (dI .i64 o)) ∧ (kJ (dI .i64 (u ++ ([(ka1 o (i2 * 2) 0), (ka1 o ((i2 * 2) + 1) 0)] : List Int))))) zk ⟨rfl, rfl, rfl, rfl, rfl, (by rfl), rfl, rfl⟩ (show n - (i2 + 1) < n - i2 from zo)
  ·refine kH [.b false] (¬ ((i2 : Int) < (n : Int))) [(4, oV 3 0 k2 2), (46, oV 1 0 n 2), (47, uV n), (48, uV i2), (49, bV false)] [(1, some (95, .ds (dI .i64 o))), (3, some (95, .ds (dI .i64 u)))] 4 zo ?_
   refine AW.seq ?_
   refine zf ?_
   refine AW.exit ?_
   refine kH [.no, .no] True [(2, oV 3 0 k2 2)] [(3, some (95, .ds (dI .i64 u)))] 4 trivial ?_
   obtain ⟨hz1, hz2⟩ := u7x hl hR ho (hS.all hl zo) hS.sr (by have h9 := hM; rw [show i2 = n by omega] at h9; exact h9)
   refine AW.freeze 3 (l' := [(2, sV .i64 u k2)]) (g' := []) rfl (FzS.cons rfl (.e (.c (@FzC.own 3 ((dI .i64 u) : List D) 0 k2 2 true ((dI .i64 u) : List D) (by rw [kd3, kb7 (by (simp only [y5, qQ, ka8, kb0, kb2, kb4, kb6, kb5, kc1, kc3, kc0, kc6] <;> omega))]) yM))) FzS.nil) FzG.nil ?_
   refine AW.ret ?_
   exact kA (.inr rfl) [] (P := (((dI .i64 (tY l)) : List D) = (dI .i64 u)) ∧ (((lX l) : Nat) = k2)) zk ⟨(by exact congrArg _ hz1.symm), zo⟩
theorem k4r (l : List Int) (n : Nat) (hl : ka0 l = n * 2) (hb : n ≤ 1000000) (h1 : 1 ≤ n) : Fun 133 [.c (.d (D.sl (dI .i64 l) n))] (kF []) 0 (oV 0 0 n 2) (kF [(0, some (95, .ds (dI .i64 l)))]) 1 := by
 refine Fun.mk (n := 8) Tryz.func133 rfl rfl (ka4 rfl) ?_
 intro cx hcx
 refine kH [.no] True [(0, sV .i64 l n)] [] 0 trivial ?_
 refine AW.seq ?_
 refine kS [.no, .no] (1 ≤ n) [(0, sV .i64 l n), (4, bV false)] zo ?_
 refine uO ?_
 refine kH [.no, .no, .ap none (0 + n) (dI .i64 l), .no] (((dI .i64 l).length = n * 2) ∧ ((([] : List D) : List D).length = 0 * 2) ∧ ((0 + n) * 16 ≤ 140737488355328) ∧ ((0 : Nat) + n = (0 + n)) ∧ ((([] : List D) : List D) ++ (dI .i64 l) = (dI .i64 l))) [(2, oV 1 0 (0 + n) 2)] [(1, some (95, .ds (dI .i64 l)))] 2 ⟨yM, yM, zo, zo, rfl⟩ ?_
 refine AW.ret ?_
 exact kA (.inr rfl) [(0, 1)] (P := (kG 0) ∧ ((n : Nat) = (0 + n)) ∧ (kJ (dI .i64 l))) zk ⟨rfl, zo, rfl⟩
theorem k4q   : Fun 133 [.c (.d (D.lit (.slice none 0 0)))] (kF []) 0 (oV 0 0 0 2) (kF [(0, some (95, .ds ([] : List D)))]) 1 := by
 refine Fun.mk (n := 8) Tryz.func133 rfl rfl (ka4 rfl) ?_
 intro cx hcx
 refine kH [.no] True [(0, nV)] [] 0 trivial ?_
 refine AW.seq ?_
 refine kS [.no, .no] True [(0, nV), (4, bV true)] trivial ?_
 refine zt ?_
 refine kS [.no] True [(2, nV)] trivial ?_
 refine AW.adoptS 2 2 95 rfl ?_
 refine AW.ret ?_
 exact kA (.inr rfl) [] (P := (kG 0) ∧ (kG 0) ∧ (kJ ([] : List D))) zk ⟨rfl, rfl, rfl⟩
theorem k4p (a : Addr) (cap : Nat) (hm : cap ≤ maxLen) : Fun 133 [.c (.d (D.lit (.slice (some a) 0 cap)))] (kF []) 0 (oV 0 0 0 2) (kF [(0, some (95, .ds ([] : List D)))]) 1 := by
 refine Fun.mk (n := 8) Tryz.func133 rfl rfl (ka4 rfl) ?_
 intro cx hcx
 refine kH [.no] True [(0, uW (D.lit (.slice (some a) 0 cap)))] [] 0 trivial ?_
 refine AW.seq ?_
 refine kS [.no, .no] True [(0, uW (D.lit (.slice (some a) 0 cap))), (4, bV false)] trivial ?_
 refine uO ?_
 refine zE 0 hm (fun h9 => by cases h9) rfl ?_
 refine kH [.no, .no, .ap none 0 ([] : List D), .no] ((([] : List D).length = 0 * 2) ∧ ((([] : List D) : List D).length = 0 * 2) ∧ ((0 + 0) * 16 ≤ 140737488355328) ∧ ((0 : Nat) + 0 = 0) ∧ ((([] : List D) : List D) ++ ([] : List D) = ([] : List D))) [(2, oV 1 0 0 2)] [(1, some (95, .ds ([] : List D)))] 2 ⟨yM, yM, zo, zo, rfl⟩ ?_
 refine AW.ret ?_
 exact kA (.inr rfl) [(0, 1)] (P := (kG 0) ∧ (kG 0) ∧ (kJ ([] : List D))) zk ⟨rfl, rfl, rfl⟩
theorem u3w (l : List Int) (n : Nat) (hl : ka0 l = n * 2) (hb : n ≤ 1000000) : Fun 133 [.c (.d (D.sl (dI .i64 l) n))] (kF []) 0 (oV 0 0 n 2) (kF [(0, some (95, .ds (dI .i64 l)))]) 1 := by
 by_cases h1 : 1 ≤ n
 ·exact k4r l n hl hb h1
 ·obtain rfl : n = 0 := by omega
  obtain rfl : l = [] := List.eq_nil_of_length_eq_zero hl
  exact Fun.nil0 k4q (fun a cap hm => k4p a cap hm)
theorem k3a (l : List Int) (n : Nat) (hl : ka0 l = n * 2) (hb : n ≤ 1000000) : Fun 90 [.c (.d (D.sl (dI .i64 l) n))] (kF []) 0 (.tup [.agg [.d (D.sl (dI .i64 (d9 l n)) (vI l n))], iE (oF l n)]) (kF []) 0 := by
 refine Fun.mk (n := 39) Tryz.func90 rfl rfl (ka4 rfl) ?_
 intro cx hcx
 refine kH [.no, .no] True [(0, sV .i64 l n), (2, rV 0 0)] [(0, some (60, .ds [qI]))] 1 trivial ?_
 refine AW.seq ?_
 refine kS [.no, .no, .no] True [(0, sV .i64 l n), (2, rV 0 0), (7, sV .i64 l n), (8, uV n), (9, iV 0)] trivial ?_
 refine AW.block ?_
 refine k8 0 hcx (fun (x : {x : Nat // match x with | k => (k ≤ n) ∧ (∀ j, j < k → rgE l j = true)}) => match x with | ⟨k, _⟩ => (⟨[(0, sV .i64 l n), (2, rV 0 0), (7, sV .i64 l n), (8, uV n), (9, uV k)], [(0, some (60, .ds [qI]))], 1⟩ : ES)) (fun x => match x with | ⟨k, _⟩ => n - k) ⟨(0 : Nat), ⟨zo, (fun j hj => absurd hj (Nat.not_lt_zero j))⟩⟩ [] (P := (kJ (dI .i64 l)) ∧ (kG n) ∧ (kG 0) ∧ (kJ (dI .i64 l)) ∧ (kG n) ∧ (kM (n : Int)) ∧ (kM 0) ∧ (kJ [qI])) zk ⟨rfl, rfl, rfl, rfl, rfl, rfl, rfl, rfl⟩ ?_
 rintro ⟨k, hinv0⟩
 obtain ⟨hk, ha⟩ : (k ≤ n) ∧ (∀ j, j < k → rgE l j = true) := hinv0
 refine qW (l := [(0, sV .i64 l n), (2, rV 0 0), (7, sV .i64 l n), (8, uV n), (9, uV k)]) (g := [(0, some (60, .ds [qI]))]) (nx := 1) rfl rfl rfl ?_
 by_cases hx1 : (((k : Nat) : Int) < ((n : Nat) : Int))
 ·refine kH [.b true] (((k : Int) < (n : Int))) [(0, sV .i64 l n), (2, rV 0 0), (7, sV .i64 l n), (8, uV n), (9, uV k), (10, bV true)] [(0, some (60, .ds [qI]))] 1 zo ?_
  refine AW.seq ?_
  refine vL ?_
  refine AW.seq ?_
  refine AW.block ?_
  refine kH [.n k, .ds [iD (ka1 l (k * 2) 0), iD (ka1 l ((k * 2) + 1) 0)], .no, .no] ((kM (k : Int)) ∧ (k < n) ∧ (ka5 2 (ka3 (k * 2) (dI .i64 l)) = [iD (ka1 l (k * 2) 0), iD (ka1 l ((k * 2) + 1) 0)]) ∧ (([iD (ka1 l (k * 2) 0), iD (ka1 l ((k * 2) + 1) 0)] : List D).length = 2)) [(0, sV .i64 l n), (2, rV 0 0), (5, rV 1 0), (7, sV .i64 l n), (8, uV n), (9, uV k)] [(0, some (60, .ds [qI])), (1, some (95, .ds [iD (ka1 l (k * 2) 0), iD (ka1 l ((k * 2) + 1) 0)]))] 2 ⟨rfl, zo, (bP .i64 l (k * 2) 2 zo), rfl⟩ ?_
  by_cases hx2 : ((ka1 l (k * 2) 0) < 0)
  ·refine kH (.no :: .no :: .b true :: qE 4 []) (((ka1 l (k * 2) 0) < 0)) [(0, sV .i64 l n), (2, rV 0 0), (7, sV .i64 l n), (8, uV n), (9, uV k), (27, bV true)] [(0, some (60, .ds [qI]))] 2 zo ?_
   refine zt ?_
   refine kS [.no, .no, .no] True [(2, rV 0 0), (3, iV 2)] trivial ?_
   obtain ⟨hz1, hz2, hz3⟩ := sC (l := l) (n := n) (u77 (k := k) zo (decide_eq_false zo))
   refine y6 (l' := [(2, rV 0 0), (3, iV 2)]) (g' := [(0, some (60, .ds [D.sl ([] : List D) 0]))]) (NlS.cons rfl (.same _) (NlS.cons rfl (.same _) NlS.nil)) (NlG.to (bc := .ds [qI]) rfl (NlL.cons (.nil) NlL.nil) NlG.nil) ?_
   refine AW.ret ?_
   exact kA (.inr rfl) [] (P := (((dI .i64 (d9 l n)) : List D) = ([] : List D)) ∧ (((vI l n) : Nat) = 0) ∧ (((oF l n) : Int) = 2)) zk ⟨(by (rw [hz2]; rfl)), zo, zo⟩
  ·by_cases hx3 : ((ka1 l ((k * 2) + 1) 0) < (ka1 l (k * 2) 0))
   ·refine kH (.no :: .no :: .b false :: qE 5 [.b true, .no, .no, .no]) ((¬ ((ka1 l (k * 2) 0) < 0)) ∧ (((ka1 l ((k * 2) + 1) 0) < (ka1 l (k * 2) 0)))) [(0, sV .i64 l n), (2, rV 0 0), (7, sV .i64 l n), (8, uV n), (9, uV k), (27, bV true)] [(0, some (60, .ds [qI]))] 2 ⟨zo, zo⟩ ?_
    refine zt ?_
    refine kS [.no, .no, .no] True [(2, rV 0 0), (3, iV 2)] trivial ?_
    obtain ⟨hz1, hz2, hz3⟩ := sC (l := l) (n := n) (u77 (k := k) zo (decide_eq_false zo))
    refine y6 (l' := [(2, rV 0 0), (3, iV 2)]) (g' := [(0, some (60, .ds [D.sl ([] : List D) 0]))]) (NlS.cons rfl (.same _) (NlS.cons rfl (.same _) NlS.nil)) (NlG.to (bc := .ds [qI]) rfl (NlL.cons (.nil) NlL.nil) NlG.nil) ?_
    refine AW.ret ?_
    exact kA (.inr rfl) [] (P := (((dI .i64 (d9 l n)) : List D) = ([] : List D)) ∧ (((vI l n) : Nat) = 0) ∧ (((oF l n) : Int) = 2)) zk ⟨(by (rw [hz2]; rfl)), zo, zo⟩
   ·by_cases hx4 : ((2147483647 : Int) < (ka1 l ((k * 2) + 1) 0))
    ·refine kH (.no :: .no :: .b false :: qE 5 (.b false :: qE 4 [.b true, .no])) ((¬ ((ka1 l (k * 2) 0) < 0)) ∧ (¬ ((ka1 l ((k * 2) + 1) 0) < (ka1 l (k * 2) 0))) ∧ (((2147483647 : Int) < (ka1 l ((k * 2) + 1) 0)))) [(0, sV .i64 l n), (2, rV 0 0), (7, sV .i64 l n), (8, uV n), (9, uV k), (27, bV true)] [(0, some (60, .ds [qI]))] 2 ⟨zo, zo, zo⟩ ?_
     refine zt ?_
     refine kS [.no, .no, .no] True [(2, rV 0 0), (3, iV 2)] trivial ?_
     obtain ⟨hz1, hz2, hz3⟩ := sC (l := l) (n := n) (u77 (k := k) zo (decide_eq_false zo))
     refine y6 (l' := [(2, rV 0 0), (3, iV 2)]) (g' := [(0, some (60, .ds [D.sl ([] : List D) 0]))]) (NlS.cons rfl (.same _) (NlS.cons rfl (.same _) NlS.nil)) (NlG.to (bc := .ds [qI]) rfl (NlL.cons (.nil) NlL.nil) NlG.nil) ?_
     refine AW.ret ?_
     exact kA (.inr rfl) [] (P := (((dI .i64 (d9 l n)) : List D) = ([] : List D)) ∧ (((vI l n) : Nat) = 0) ∧ (((oF l n) : Int) = 2)) zk ⟨(by (rw [hz2]; rfl)), zo, zo⟩
    ·refine kH (.no :: .no :: .b false :: qE 5 (.b false :: qE 4 [.b false, .no])) ((¬ ((ka1 l (k * 2) 0) < 0)) ∧ (¬ ((ka1 l ((k * 2) + 1) 0) < (ka1 l (k * 2) 0))) ∧ (¬ ((2147483647 : Int) < (ka1 l ((k * 2) + 1) 0)))) [(0, sV .i64 l n), (2, rV 0 0), (7, sV .i64 l n), (8, uV n), (9, uV k), (27, bV false)] [(0, some (60, .ds [qI]))] 2 ⟨zo, zo, zo⟩ ?_
     refine uO ?_
     refine yA [.w, .no] ((-9223372036854775808) ≤ ((k : Int) + 1) ∧ ((k : Int) + 1) ≤ 9223372036854775807) [(0, sV .i64 l n), (2, rV 0 0), (7, sV .i64 l n), (8, uV n), (9, iV (↑k + 1))] ⟨by omega, by omega⟩ ?_
     exact kW ⟨((k + 1) : Nat), ⟨zo, (fun j hj => (Nat.lt_succ_iff_lt_or_eq.1 hj).elim (ha j) (fun e9 => by subst e9; exact decide_eq_true zo))⟩⟩ [] (P := (kJ (dI .i64 l)) ∧ (kG n) ∧ (kG 0) ∧ (kJ (dI .i64 l)) ∧ (kG n) ∧ (kM (n : Int)) ∧ (((((k + 1) : Nat) : Int) : Int) = ((k : Int) + 1)) ∧ (kJ [qI])) zk ⟨rfl, rfl, rfl, rfl, rfl, rfl, (by rfl), rfl⟩ (show n - (k + 1) < n - k from zo)
 ·refine kH [.b false] (¬ ((k : Int) < (n : Int))) [(0, sV .i64 l n), (2, rV 0 0), (7, sV .i64 l n), (8, uV n), (9, uV k), (10, bV false)] [(0, some (60, .ds [qI]))] 1 zo ?_
  refine AW.seq ?_
  refine zf ?_
  refine AW.exit ?_
  have hR : RG l n := jO.1 (v0m (fun j hj => ha j (by omega)))
  have hx5 : ((ka0 (tY l)) = ((lX l) * 2)) := k0h l
  have hx6 : ((lX l) ≤ n) := k7j (zo) (zo)
  refine kH [.no, .call [] (sV .i64 (tY l) (lX l)) [] 0 [] none, .no, .no, .no] _ [(2, rV 0 0), (6, rV 1 0)] [(0, some (60, .ds [qI])), (1, some (60, .ds [dl (tY l) (lX l)]))] 2 (u0w l n zo zo zo) ?_
  refine AW.seq ?_
  by_cases hx7 : ((64 : Int) < (((lX l) : Nat) : Int))
  ·refine kS [.no, .no, .no, .b true] (((64 : Int) < (lX l : Int))) [(2, rV 0 0), (6, rV 1 0), (36, bV true)] zo ?_
   refine zt ?_
   refine kH [.no, .no, .no] True [(2, rV 0 0), (3, iV 3)] [(0, some (60, .ds [qI]))] 2 trivial ?_
   obtain ⟨hz1, hz2, hz3⟩ := k6z (jO.2 hR) zo
   refine y6 (l' := [(2, rV 0 0), (3, iV 3)]) (g' := [(0, some (60, .ds [D.sl ([] : List D) 0]))]) (NlS.cons rfl (.same _) (NlS.cons rfl (.same _) NlS.nil)) (NlG.to (bc := .ds [qI]) rfl (NlL.cons (.nil) NlL.nil) NlG.nil) ?_
   refine AW.ret ?_
   exact kA (.inr rfl) [] (P := (((dI .i64 (d9 l n)) : List D) = ([] : List D)) ∧ (((vI l n) : Nat) = 0) ∧ (((oF l n) : Int) = 3)) zk ⟨(by (rw [hz2]; rfl)), zo, zo⟩
  ·refine kS [.no, .no, .no, .b false] (¬ ((64 : Int) < (lX l : Int))) [(2, rV 0 0), (6, rV 1 0), (36, bV false)] zo ?_
   refine uO ?_
   refine kH [.no, .no, .no] True [(2, rV 0 0), (3, iV 0)] [(0, some (60, .ds [dl (tY l) (lX l)]))] 2 trivial ?_
   obtain ⟨hz1, hz2, hz3⟩ := sB (jO.2 hR) zo
   refine AW.ret ?_
   exact kA (.inr rfl) [] (P := (((dI .i64 (d9 l n)) : List D) = (dI .i64 (tY l))) ∧ (((vI l n) : Nat) = (lX l)) ∧ (((oF l n) : Int) = 0)) zk ⟨(by (rw [hz2]; done)), zo, zo⟩
end Go.Proofs.YtbicifcgghmhaaaGreat
