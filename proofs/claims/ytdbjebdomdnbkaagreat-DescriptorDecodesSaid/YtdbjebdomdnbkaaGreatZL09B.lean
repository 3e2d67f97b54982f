/- Sets of integers: B. No statement is proved here. -/
import Derived.Test.YtdbjebdomdnbkaaGreatZL09A
namespace Go.Proofs.YtdbjebdomdnbkaaGreat
open Go.ChangeShapes Go.WideShapes Go.ChangeAt Go.RowKit
open List renaming drop → ka5, drop_drop → kk2, drop_zero → kd7, getD → ka0, length → ka1, length_append → ka4, length_cons → kb3, length_drop → kb9, length_map → kc8, length_nil → kb6, length_replicate → kb8, length_reverse → kc6, length_set → kc4, length_take → kb4, set → kd9, take → ka2, take_of_length_le → kc3
open Nat renaming le_of_ble_eq_true → ka3, mul_one → kd0
set_option linter.unusedVariables false
set_option linter.unusedSimpArgs false
set_option maxHeartbeats 4000000
set_option maxRecDepth 100000
theorem y1 {p : Prop} (h : p := by (simp only [aX, uF, ka4, kb3, kb6, kb4, kb9, kb8, kc4, kc8, kc6, kd0] <;> omega)) : p := h
theorem nO {p : Prop} (h : p := by simp only [c9, bY, Nat.zero_mul, Nat.one_mul, kd7]) : p := h
theorem wI {p : Prop} (h : p := by (simp only [aX, ka4, kb3, kb6, kc4] <;> omega)) : p := h
abbrev dL (l : List Int) (i : Nat) : BC := .ds [iD (ka0 l (i * 2) 0), iD (ka0 l ((i * 2) + 1) 0)]
theorem k6p (l : List Int) (n : Nat) (hl : ka1 l = n * 2) (hb : n ≤ 1000000) (hR : RG l n) : Fun 100 [.c (.d (D.sl (dI .i64 l) n))] (kD []) 0 (sV .i64 (rS l) (lF l)) (kD []) 0 := by
 refine Fun.mk (n := 86) Tryz.func100 rfl rfl (ka3 rfl) ?_
 intro cx hcx
 refine kG [.no] True [(0, sV .i64 l n)] [] 0 trivial ?_
 refine kV [.no, .no] True [(0, sV .i64 l n), (3, nV), (4, nV)] trivial ?_
 refine AW.seq ?_
 refine kV [.no, .no, .no] True [(3, nV), (4, nV), (11, sV .i64 l n), (12, uV n), (13, iV 0)] trivial ?_
 refine AW.block ?_
 refine AW.adoptS 3 2 90 rfl ?_
 refine kU 0 hcx (fun (x : {x : Nat × List Int // match x with | (i, o) => (i ≤ n) ∧ (SI l i o) ∧ (ka1 o = i * 2)}) => match x with | ⟨(i, o), _⟩ => (⟨[(3, oV 1 0 i 2), (4, nV), (11, sV .i64 l n), (12, uV n), (13, uV i)], [(1, some (90, .ds (dI .i64 o)))], 2⟩ : ES)) (fun x => match x with | ⟨(i, o), _⟩ => n - i) ⟨((0 : Nat), (([] : List Int) : List Int)), ⟨zo, (SI.zero l), rfl⟩⟩ [(1, 0)] (P := (kQ 0) ∧ (kQ 0) ∧ ((.slice none 0 0 : Value) = .slice none 0 0) ∧ (kY (dI .i64 l)) ∧ (kQ n) ∧ (kM (n : Int)) ∧ (kM 0) ∧ (((dI .i64 ([] : List Int)) : List D) = ([] : List D))) zk ⟨rfl, rfl, rfl, rfl, rfl, rfl, rfl, (by rfl)⟩ ?_
 rintro ⟨⟨i, o⟩, hinv0⟩
 obtain ⟨hi, hS, ho⟩ : (i ≤ n) ∧ (SI l i o) ∧ (ka1 o = i * 2) := hinv0
 refine qV (l := [(3, oV 1 0 i 2), (4, nV), (11, sV .i64 l n), (12, uV n), (13, uV i)]) (g := [(1, some (90, .ds (dI .i64 o)))]) (nx := 2) rfl rfl rfl ?_
 by_cases hx1 : (((i : Nat) : Int) < ((n : Nat) : Int))
 ·refine kG [.b true] (((i : Int) < (n : Int))) [(3, oV 1 0 i 2), (4, nV), (11, sV .i64 l n), (12, uV n), (13, uV i), (14, bV true)] [(1, some (90, .ds (dI .i64 o)))] 2 zo ?_
  refine AW.seq ?_
  refine u1 ?_
  refine AW.seq ?_
  refine AW.block ?_
  refine kG [.n i, .ds [iD (ka0 l (i * 2) 0), iD (ka0 l ((i * 2) + 1) 0)], .no, .no] ((kM (i : Int)) ∧ (i < n) ∧ (ka2 2 (ka5 (i * 2) (dI .i64 l)) = [iD (ka0 l (i * 2) 0), iD (ka0 l ((i * 2) + 1) 0)]) ∧ (([iD (ka0 l (i * 2) 0), iD (ka0 l ((i * 2) + 1) 0)] : List D).length = 2)) [(3, oV 1 0 i 2), (4, nV), (6, rV 2 0), (11, sV .i64 l n), (12, uV n), (13, uV i)] [(1, some (90, .ds (dI .i64 o))), (2, some (90, (dL l i)))] 3 ⟨rfl, zo, (aH .i64 l (i * 2) 2 zo), rfl⟩ ?_
  refine AW.freeze 1 (l' := [(3, sV .i64 o i), (4, nV), (6, rV 2 0), (11, sV .i64 l n), (12, uV n), (13, uV i)]) (g' := [(2, some (90, (dL l i)))]) rfl (FzS.cons rfl (.e (.c (@FzC.own 1 ((dI .i64 o) : List D) 0 i 2 true ((dI .i64 o) : List D) (by rw [kd7, kc3 (by (simp only [aX, uF, ka4, kb3, kb6, kb4, kb9, kb8, kc4, kc8, kc6, kd0] <;> omega))]) y1))) (FzS.cons rfl (.same _) (FzS.cons rfl (.same _) (FzS.cons rfl (.same _) (FzS.cons rfl (.same _) (FzS.cons rfl (.same _) FzS.nil)))))) (qF rfl rfl FzG.nil) ?_
  refine kG [.no, .no, .no] True [(3, sV .i64 o i), (4, nV), (6, rV 2 0), (7, uV i), (11, sV .i64 l n), (12, uV n), (13, uV i)] [(2, some (90, (dL l i)))] 3 trivial ?_
  refine AW.seq ?_
  refine AW.block ?_
  refine kU 0 hcx (fun (x : {x : Nat // match x with | k => (k ≤ i) ∧ (∀ j, k ≤ j → j < i → ka0 l (i * 2) 0 < ka0 o (j * 2) 0)}) => match x with | ⟨k, _⟩ => (⟨[(3, sV .i64 o i), (4, nV), (6, rV 2 0), (7, uV k), (11, sV .i64 l n), (12, uV n), (13, uV i)], [(2, some (90, (dL l i)))], 3⟩ : ES)) (fun x => match x with | ⟨k, _⟩ => k) ⟨(i : Nat), ⟨zo, (fun j h8 h9 => by omega)⟩⟩ [] (P := (kY (dI .i64 o)) ∧ (kQ i) ∧ ((.slice none 0 0 : Value) = .slice none 0 0) ∧ (kQ 0) ∧ (kM (i : Int)) ∧ (kY (dI .i64 l)) ∧ (kQ n) ∧ (kM (n : Int)) ∧ (kM (i : Int)) ∧ (kY [iD (ka0 l (i * 2) 0), iD (ka0 l ((i * 2) + 1) 0)])) zk ⟨rfl, rfl, rfl, rfl, rfl, rfl, rfl, rfl, rfl, rfl⟩ ?_
  rintro ⟨k, hinv1⟩
  obtain ⟨hk, hk2⟩ : (k ≤ i) ∧ (∀ j, k ≤ j → j < i → ka0 l (i * 2) 0 < ka0 o (j * 2) 0) := hinv1
  refine qV (l := [(3, sV .i64 o i), (4, nV), (6, rV 2 0), (7, uV k), (11, sV .i64 l n), (12, uV n), (13, uV i)]) (g := [(2, some (90, (dL l i)))]) (nx := 3) rfl rfl rfl ?_
  refine AW.seq ?_
  by_cases hx2 : ((0 : Int) < ((k : Nat) : Int))
  ·by_cases hx3 : ((ka0 l (i * 2) 0) < (ka0 o ((k - 1) * 2) 0))
   ·refine kG [.no, .b true, .no, .no, .no, .w, .n (k - 1), .no, .d (D.lit (.int .i64 (ka0 o ((k - 1) * 2) 0))), .no, .no, .b true, .no] ((((0 : Int) < (k : Int))) ∧ (qB ((k : Int) - 1)) ∧ ((((k : Int) - 1) : Int) = (((k - 1) : Nat) : Int)) ∧ ((k - 1) < i) ∧ ((ka5 0 (ka5 ((k - 1) * 2) (dI .i64 o)))[0]? = some (D.lit (.int .i64 (ka0 o ((k - 1) * 2) 0)))) ∧ (((ka0 l (i * 2) 0) < (ka0 o ((k - 1) * 2) 0)))) [(3, sV .i64 o i), (4, nV), (6, rV 2 0), (7, uV k), (11, sV .i64 l n), (12, uV n), (13, uV i), (31, bV true)] [(2, some (90, (dL l i)))] 3 ⟨zo, ⟨by omega, by omega⟩, zo, zo, (by (rw [kk2]; exact qN _ _ _ zo)), zo⟩ ?_
    refine u1 ?_
    refine AW.block ?_
    refine uG [.no, .w, .no] (qB ((k : Int) - 1)) [(3, sV .i64 o i), (4, nV), (6, rV 2 0), (7, iV (↑k - 1)), (11, sV .i64 l n), (12, uV n), (13, uV i)] ⟨by omega, by omega⟩ ?_
    exact qH ⟨((k - 1) : Nat), ⟨zo, (k44 hk2 zo zo)⟩⟩ [] (P := (kY (dI .i64 o)) ∧ (kQ i) ∧ ((.slice none 0 0 : Value) = .slice none 0 0) ∧ (kQ 0) ∧ (((((k - 1) : Nat) : Int) : Int) = ((k : Int) - 1)) ∧ (kY (dI .i64 l)) ∧ (kQ n) ∧ (kM (n : Int)) ∧ (kM (i : Int)) ∧ (kY [iD (ka0 l (i * 2) 0), iD (ka0 l ((i * 2) + 1) 0)])) zk ⟨rfl, rfl, rfl, rfl, zo, rfl, rfl, rfl, rfl, rfl⟩ (show (k - 1) < k from zo)
   ·refine kG [.no, .b true, .no, .no, .no, .w, .n (k - 1), .no, .d (D.lit (.int .i64 (ka0 o ((k - 1) * 2) 0))), .no, .no, .b false, .no] ((((0 : Int) < (k : Int))) ∧ (qB ((k : Int) - 1)) ∧ ((((k : Int) - 1) : Int) = (((k - 1) : Nat) : Int)) ∧ ((k - 1) < i) ∧ ((ka5 0 (ka5 ((k - 1) * 2) (dI .i64 o)))[0]? = some (D.lit (.int .i64 (ka0 o ((k - 1) * 2) 0)))) ∧ (¬ ((ka0 l (i * 2) 0) < (ka0 o ((k - 1) * 2) 0)))) [(3, sV .i64 o i), (4, nV), (6, rV 2 0), (7, uV k), (11, sV .i64 l n), (12, uV n), (13, uV i), (31, bV false)] [(2, some (90, (dL l i)))] 3 ⟨zo, ⟨by omega, by omega⟩, zo, zo, (by (rw [kk2]; exact qN _ _ _ zo)), zo⟩ ?_
    refine zf ?_
    refine AW.exit ?_
    refine aC [.no, .no, .sls 0 k k (dI .i64 (ka2 (k * 2) o)), .ap none k (dI .i64 (ka2 (k * 2) o)), .no, .no, .ap none (k + 1) (dI .i64 ((ka2 (k * 2) o) ++ ([(ka0 l (i * 2) 0), (ka0 l ((i * 2) + 1) 0)] : List Int))), .no, .no, .sls k i (i - k) (dI .i64 (ka2 ((i - k) * 2) (ka5 (k * 2) o))), .ap none ((k + 1) + (i - k)) (dI .i64 (((ka2 (k * 2) o) ++ ([(ka0 l (i * 2) 0), (ka0 l ((i * 2) + 1) 0)] : List Int)) ++ (ka2 ((i - k) * 2) (ka5 (k * 2) o)))), .no] ((kQ 0) ∧ (kM (k : Int)) ∧ ((0 : Nat) ≤ k) ∧ (k ≤ i) ∧ (k - 0 = k) ∧ (ka2 (k * 2) (ka5 (0 * 2) (dI .i64 o)) = (dI .i64 (ka2 (k * 2) o))) ∧ ((dI .i64 (ka2 (k * 2) o)).length = k * 2) ∧ (k * 16 ≤ 140737488355328) ∧ (k = k) ∧ (kY (dI .i64 (ka2 (k * 2) o))) ∧ ([iD (ka0 l (i * 2) 0), iD (ka0 l ((i * 2) + 1) 0)].length = 1 * 2) ∧ (((dI .i64 (ka2 (k * 2) o)) : List D).length = k * 2) ∧ ((k + 1) * 16 ≤ 140737488355328) ∧ (k + 1 = (k + 1)) ∧ (((dI .i64 (ka2 (k * 2) o)) : List D) ++ [iD (ka0 l (i * 2) 0), iD (ka0 l ((i * 2) + 1) 0)] = (dI .i64 ((ka2 (k * 2) o) ++ ([(ka0 l (i * 2) 0), (ka0 l ((i * 2) + 1) 0)] : List Int)))) ∧ (kM (k : Int)) ∧ (i = i) ∧ (k ≤ i) ∧ (i ≤ i) ∧ (i - k = (i - k)) ∧ (ka2 ((i - k) * 2) (ka5 (k * 2) (dI .i64 o)) = (dI .i64 (ka2 ((i - k) * 2) (ka5 (k * 2) o)))) ∧ ((dI .i64 (ka2 ((i - k) * 2) (ka5 (k * 2) o))).length = (i - k) * 2) ∧ (((dI .i64 ((ka2 (k * 2) o) ++ ([(ka0 l (i * 2) 0), (ka0 l ((i * 2) + 1) 0)] : List Int))) : List D).length = (k + 1) * 2) ∧ (((k + 1) + (i - k)) * 16 ≤ 140737488355328) ∧ ((k + 1) + (i - k) = ((k + 1) + (i - k))) ∧ (((dI .i64 ((ka2 (k * 2) o) ++ ([(ka0 l (i * 2) 0), (ka0 l ((i * 2) + 1) 0)] : List Int))) : List D) ++ (dI .i64 (ka2 ((i - k) * 2) (ka5 (k * 2) o))) = (dI .i64 (((ka2 (k * 2) o) ++ ([(ka0 l (i * 2) 0), (ka0 l ((i * 2) + 1) 0)] : List Int)) ++ (ka2 ((i - k) * 2) (ka5 (k * 2) o)))))) [(3, oV 6 0 ((k + 1) + (i - k)) 2), (4, nV), (11, sV .i64 l n), (12, uV n), (13, uV i)] [(6, some (90, .ds (dI .i64 (((ka2 (k * 2) o) ++ ([(ka0 l (i * 2) 0), (ka0 l ((i * 2) + 1) 0)] : List Int)) ++ (ka2 ((i - k) * 2) (ka5 (k * 2) o))))))] 7 ⟨rfl, rfl, zo, zo, zo, nO, y1, zo, rfl, rfl, y1, y1, zo, zo, (uK .i64 (ka2 (k * 2) o) ([(ka0 l (i * 2) 0), (ka0 l ((i * 2) + 1) 0)] : List Int)), rfl, rfl, zo, zo, zo, nO, y1, y1, zo, zo, (uK .i64 ((ka2 (k * 2) o) ++ ([(ka0 l (i * 2) 0), (ka0 l ((i * 2) + 1) 0)] : List Int)) (ka2 ((i - k) * 2) (ka5 (k * 2) o)))⟩ ?_
    refine uG [.w, .no] (qB ((i : Int) + 1)) [(3, oV 6 0 ((k + 1) + (i - k)) 2), (4, nV), (11, sV .i64 l n), (12, uV n), (13, iV (↑i + 1))] ⟨by omega, by omega⟩ ?_
    exact qH ⟨(((i + 1) : Nat), ((((ka2 (k * 2) o) ++ ([(ka0 l (i * 2) 0), (ka0 l ((i * 2) + 1) 0)] : List Int)) ++ (ka2 ((i - k) * 2) (ka5 (k * 2) o))) : List Int)), ⟨zo, (hS.step hl zo rfl rfl zo (fun j h8 h9 => hk2 j h8 zo) zo (by (congr 1; exact (kc3 (by rw [kb9]; omega))))), (by simp only [aX, ka4, kb3, kb6, kb4, kb9] <;> omega)⟩⟩ [(1, 6)] (P := (kQ 0) ∧ (((i + 1) : Nat) = ((k + 1) + (i - k))) ∧ ((.slice none 0 0 : Value) = .slice none 0 0) ∧ (kY (dI .i64 l)) ∧ (kQ n) ∧ (kM (n : Int)) ∧ (((((i + 1) : Nat) : Int) : Int) = ((i : Int) + 1)) ∧ (kY (dI .i64 (((ka2 (k * 2) o) ++ ([(ka0 l (i * 2) 0), (ka0 l ((i * 2) + 1) 0)] : List Int)) ++ (ka2 ((i - k) * 2) (ka5 (k * 2) o)))))) zk ⟨rfl, zo, rfl, rfl, rfl, rfl, (by rfl), rfl⟩ (show n - (i + 1) < n - i from zo)
  ·refine kG [.no, .b false, .no, .no] (¬ ((0 : Int) < (k : Int))) [(3, sV .i64 o i), (4, nV), (6, rV 2 0), (7, uV k), (11, sV .i64 l n), (12, uV n), (13, uV i), (31, bV false)] [(2, some (90, (dL l i)))] 3 zo ?_
   refine zf ?_
   refine AW.exit ?_
   refine aC [.no, .no, .sls 0 k k (dI .i64 (ka2 (k * 2) o)), .ap none k (dI .i64 (ka2 (k * 2) o)), .no, .no, .ap none (k + 1) (dI .i64 ((ka2 (k * 2) o) ++ ([(ka0 l (i * 2) 0), (ka0 l ((i * 2) + 1) 0)] : List Int))), .no, .no, .sls k i (i - k) (dI .i64 (ka2 ((i - k) * 2) (ka5 (k * 2) o))), .ap none ((k + 1) + (i - k)) (dI .i64 (((ka2 (k * 2) o) ++ ([(ka0 l (i * 2) 0), (ka0 l ((i * 2) + 1) 0)] : List Int)) ++ (ka2 ((i - k) * 2) (ka5 (k * 2) o)))), .no] ((kQ 0) ∧ (kM (k : Int)) ∧ ((0 : Nat) ≤ k) ∧ (k ≤ i) ∧ (k - 0 = k) ∧ (ka2 (k * 2) (ka5 (0 * 2) (dI .i64 o)) = (dI .i64 (ka2 (k * 2) o))) ∧ ((dI .i64 (ka2 (k * 2) o)).length = k * 2) ∧ (k * 16 ≤ 140737488355328) ∧ (k = k) ∧ (kY (dI .i64 (ka2 (k * 2) o))) ∧ ([iD (ka0 l (i * 2) 0), iD (ka0 l ((i * 2) + 1) 0)].length = 1 * 2) ∧ (((dI .i64 (ka2 (k * 2) o)) : List D).length = k * 2) ∧ ((k + 1) * 16 ≤ 140737488355328) ∧ (k + 1 = (k + 1)) ∧ (((dI .i64 (ka2 (k * 2) o)) : List D) ++ [iD (ka0 l (i * 2) 0), iD (ka0 l ((i * 2) + 1) 0)] = (dI .i64 ((ka2 (k * 2) o) ++ ([(ka0 l (i * 2) 0), (ka0 l ((i * 2) + 1) 0)] : List Int)))) ∧ (kM (k : Int)) ∧ (i = i) ∧ (k ≤ i) ∧ (i ≤ i) ∧ (i - k = (i - k)) ∧ (ka2 ((i - k) * 2) (ka5 (k * 2) (dI .i64 o)) = (dI .i64 (ka2 ((i - k) * 2) (ka5 (k * 2) o)))) ∧ ((dI .i64 (ka2 ((i - k) * 2) (ka5 (k * 2) o))).length = (i - k) * 2) ∧ (((dI .i64 ((ka2 (k * 2) o) ++ ([(ka0 l (i * 2) 0), (ka0 l ((i * 2) + 1) 0)] : List Int))) : List D).length = (k + 1) * 2) ∧ (((k + 1) + (i - k)) * 16 ≤ 140737488355328) ∧ ((k + 1) + (i - k) = ((k + 1) + (i - k))) ∧ (((dI .i64 ((ka2 (k * 2) o) ++ ([(ka0 l (i * 2) 0), (ka0 l ((i * 2) + 1) 0)] : List Int))) : List D) ++ (dI .i64 (ka2 ((i - k) * 2) (ka5 (k * 2) o))) = (dI .i64 (((ka2 (k * 2) o) ++ ([(ka0 l (i * 2) 0), (ka0 l ((i * 2) + 1) 0)] : List Int)) ++ (ka2 ((i - k) * 2) (ka5 (k * 2) o)))))) [(3, oV 6 0 ((k + 1) + (i - k)) 2), (4, nV), (11, sV .i64 l n), (12, uV n), (13, uV i)] [(6, some (90, .ds (dI .i64 (((ka2 (k * 2) o) ++ ([(ka0 l (i * 2) 0), (ka0 l ((i * 2) + 1) 0)] : List Int)) ++ (ka2 ((i - k) * 2) (ka5 (k * 2) o))))))] 7 ⟨rfl, rfl, zo, zo, zo, nO, y1, zo, rfl, rfl, y1, y1, zo, zo, (uK .i64 (ka2 (k * 2) o) ([(ka0 l (i * 2) 0), (ka0 l ((i * 2) + 1) 0)] : List Int)), rfl, rfl, zo, zo, zo, nO, y1, y1, zo, zo, (uK .i64 ((ka2 (k * 2) o) ++ ([(ka0 l (i * 2) 0), (ka0 l ((i * 2) + 1) 0)] : List Int)) (ka2 ((i - k) * 2) (ka5 (k * 2) o)))⟩ ?_
   refine uG [.w, .no] (qB ((i : Int) + 1)) [(3, oV 6 0 ((k + 1) + (i - k)) 2), (4, nV), (11, sV .i64 l n), (12, uV n), (13, iV (↑i + 1))] ⟨by omega, by omega⟩ ?_
   exact qH ⟨(((i + 1) : Nat), ((((ka2 (k * 2) o) ++ ([(ka0 l (i * 2) 0), (ka0 l ((i * 2) + 1) 0)] : List Int)) ++ (ka2 ((i - k) * 2) (ka5 (k * 2) o))) : List Int)), ⟨zo, (hS.step hl zo rfl rfl zo (fun j h8 h9 => hk2 j h8 zo) zo (by (congr 1; exact (kc3 (by rw [kb9]; omega))))), (by simp only [aX, ka4, kb3, kb6, kb4, kb9] <;> omega)⟩⟩ [(1, 6)] (P := (kQ 0) ∧ (((i + 1) : Nat) = ((k + 1) + (i - k))) ∧ ((.slice none 0 0 : Value) = .slice none 0 0) ∧ (kY (dI .i64 l)) ∧ (kQ n) ∧ (kM (n : Int)) ∧ (((((i + 1) : Nat) : Int) : Int) = ((i : Int) + 1)) ∧ (kY (dI .i64 (((ka2 (k * 2) o) ++ ([(ka0 l (i * 2) 0), (ka0 l ((i * 2) + 1) 0)] : List Int)) ++ (ka2 ((i - k) * 2) (ka5 (k * 2) o)))))) zk ⟨rfl, zo, rfl, rfl, rfl, rfl, (by rfl), rfl⟩ (show n - (i + 1) < n - i from zo)
 ·refine kG [.b false] (¬ ((i : Int) < (n : Int))) [(3, oV 1 0 i 2), (4, nV), (11, sV .i64 l n), (12, uV n), (13, uV i), (14, bV false)] [(1, some (90, .ds (dI .i64 o)))] 2 zo ?_
  refine AW.seq ?_
  refine zf ?_
  refine AW.exit ?_
  refine AW.seq ?_
  obtain rfl : n = i := (by omega)
  have hRo : RG o n := hS.rg hl (by omega) hR
  refine kG [.no, .no, .no] True [(4, nV), (46, oV 1 0 n 2), (47, uV n), (48, iV 0)] [(1, some (90, .ds (dI .i64 o)))] 2 trivial ?_
  refine AW.block ?_
  refine AW.adoptS 4 2 90 rfl ?_
  refine kU 0 hcx (fun (x : {x : Nat × Nat × List Int // match x with | (i2, k2, u) => (i2 ≤ n ∧ k2 ≤ i2) ∧ (MG o i2 k2 u) ∧ (ka1 u = k2 * 2)}) => match x with | ⟨(i2, k2, u), _⟩ => (⟨[(4, oV 3 0 k2 2), (46, oV 1 0 n 2), (47, uV n), (48, uV i2)], [(1, some (90, .ds (dI .i64 o))), (3, some (90, .ds (dI .i64 u)))], 4⟩ : ES)) (fun x => match x with | ⟨(i2, k2, u), _⟩ => n - i2) ⟨((0 : Nat), (0 : Nat), (([] : List Int) : List Int)), ⟨zo, (MG.zero _), rfl⟩⟩ [(3, 2)] (P := (kQ 0) ∧ (kQ 0) ∧ (kQ 0) ∧ (kQ n) ∧ (kM (n : Int)) ∧ (kM 0) ∧ (kY (dI .i64 o)) ∧ (((dI .i64 ([] : List Int)) : List D) = ([] : List D))) zk ⟨rfl, rfl, rfl, rfl, rfl, rfl, rfl, (by rfl)⟩ ?_
  rintro ⟨⟨i2, k2, u⟩, hinv2⟩
  obtain ⟨hi2, hM, hu⟩ : (i2 ≤ n ∧ k2 ≤ i2) ∧ (MG o i2 k2 u) ∧ (ka1 u = k2 * 2) := hinv2
  refine qV (l := [(4, oV 3 0 k2 2), (46, oV 1 0 n 2), (47, uV n), (48, uV i2)]) (g := [(1, some (90, .ds (dI .i64 o))), (3, some (90, .ds (dI .i64 u)))]) (nx := 4) rfl rfl rfl ?_
  by_cases hx4 : (((i2 : Nat) : Int) < ((n : Nat) : Int))
  ·refine kG [.b true] (((i2 : Int) < (n : Int))) [(4, oV 3 0 k2 2), (46, oV 1 0 n 2), (47, uV n), (48, uV i2), (49, bV true)] [(1, some (90, .ds (dI .i64 o))), (3, some (90, .ds (dI .i64 u)))] 4 zo ?_
   refine AW.seq ?_
   refine u1 ?_
   refine AW.seq ?_
   refine AW.block ?_
   refine kG [.n2 i2 (i2 * 2), .ds [iD (ka0 o (i2 * 2) 0), iD (ka0 o ((i2 * 2) + 1) 0)], .no, .no] ((kM (i2 : Int)) ∧ (i2 < n) ∧ ((0 : Nat) + i2 * 2 = (i2 * 2)) ∧ (ka2 2 (ka5 (i2 * 2) (dI .i64 o)) = [iD (ka0 o (i2 * 2) 0), iD (ka0 o ((i2 * 2) + 1) 0)]) ∧ (([iD (ka0 o (i2 * 2) 0), iD (ka0 o ((i2 * 2) + 1) 0)] : List D).length = 2)) [(4, oV 3 0 k2 2), (9, rV 4 0), (46, oV 1 0 n 2), (47, uV n), (48, uV i2)] [(1, some (90, .ds (dI .i64 o))), (3, some (90, .ds (dI .i64 u))), (4, some (90, .ds [iD (ka0 o (i2 * 2) 0), iD (ka0 o ((i2 * 2) + 1) 0)]))] 5 ⟨rfl, zo, zo, (aH .i64 o (i2 * 2) 2 zo), rfl⟩ ?_
   refine kV [.no, .no, .w, .no] (qB ((k2 : Int) - 1)) [(4, oV 3 0 k2 2), (9, rV 4 0), (10, iV (↑k2 - 1)), (46, oV 1 0 n 2), (47, uV n), (48, uV i2)] ⟨by omega, by omega⟩ ?_
   by_cases hx6 : ((0 : Int) ≤ (((k2 : Nat) : Int) - 1))
   ·by_cases hx9 : (((ka0 o (i2 * 2) 0) - 1) ≤ (ka0 u (((k2 - 1) * 2) + 1) 0))
    ·have hx10 : 0 ≤ ka0 o (i2 * 2) 0 ∧ ka0 o (i2 * 2) 0 ≤ ka0 o (i2 * 2 + 1) 0 ∧ ka0 o (i2 * 2 + 1) 0 ≤ 2147483647 := hRo i2 zo
     have hx11 : 0 ≤ ka0 u ((k2 - 1) * 2 + 1) 0 ∧ ka0 u ((k2 - 1) * 2 + 1) 0 ≤ 2147483647 := hM.hi ho hRo zo
     refine kV [.no, .b true, .no, .no, .no, .w, .no, .no, .n2 (k2 - 1) ((k2 - 1) * 2), .no, .d (D.lit (.int .i64 (ka0 u (((k2 - 1) * 2) + 1) 0))), .b true, .no] ((((0 : Int) ≤ ((k2 : Int) - 1))) ∧ (qB ((ka0 o (i2 * 2) 0) - 1)) ∧ ((((k2 : Int) - 1) : Int) = (((k2 - 1) : Nat) : Int)) ∧ ((k2 - 1) < k2) ∧ ((0 : Nat) + (k2 - 1) * 2 = ((k2 - 1) * 2)) ∧ ((dI .i64 u)[(((k2 - 1) * 2) + 1)]? = some (D.lit (.int .i64 (ka0 u (((k2 - 1) * 2) + 1) 0)))) ∧ ((((ka0 o (i2 * 2) 0) - 1) ≤ (ka0 u (((k2 - 1) * 2) + 1) 0)))) [(4, oV 3 0 k2 2), (9, rV 4 0), (10, iV (↑k2 - 1)), (46, oV 1 0 n 2), (47, uV n), (48, uV i2), (67, bV true)] ⟨zo, ⟨by omega, by omega⟩, zo, zo, zo, (fD _ _ _ zo), zo⟩ ?_
     refine zt ?_
     refine aC (kJ 4 [.n2 (k2 - 1) ((k2 - 1) * 2), .no, .d (D.lit (.int .i64 (ka0 u (((k2 - 1) * 2) + 1) 0))), .no, .no, .no, .n2 (k2 - 1) ((k2 - 1) * 2), .no, .ds (dI .i64 (kd9 u (((k2 - 1) * 2) + 1) (max (ka0 u (((k2 - 1) * 2) + 1) 0) (ka0 o ((i2 * 2) + 1) 0))))]) (((((k2 : Int) - 1) : Int) = (((k2 - 1) : Nat) : Int)) ∧ ((k2 - 1) < k2) ∧ ((0 : Nat) + (k2 - 1) * 2 = ((k2 - 1) * 2)) ∧ ((dI .i64 u)[(((k2 - 1) * 2) + 1)]? = some (D.lit (.int .i64 (ka0 u (((k2 - 1) * 2) + 1) 0)))) ∧ ((((k2 : Int) - 1) : Int) = (((k2 - 1) : Nat) : Int)) ∧ ((k2 - 1) < k2) ∧ ((0 : Nat) + (k2 - 1) * 2 = ((k2 - 1) * 2)) ∧ ((((k2 - 1) * 2) + 1) + 1 ≤ (dI .i64 u).length) ∧ (wK (dI .i64 u) (((k2 - 1) * 2) + 1) [D.lit (.int .i64 (max (ka0 u (((k2 - 1) * 2) + 1) 0) (ka0 o ((i2 * 2) + 1) 0)))] = dI .i64 (kd9 u (((k2 - 1) * 2) + 1) (max (ka0 u (((k2 - 1) * 2) + 1) 0) (ka0 o ((i2 * 2) + 1) 0))))) [(4, oV 3 0 k2 2), (46, oV 1 0 n 2), (47, uV n), (48, uV i2)] [(1, some (90, .ds (dI .i64 o))), (3, some (90, .ds (dI .i64 (kd9 u (((k2 - 1) * 2) + 1) (max (ka0 u (((k2 - 1) * 2) + 1) 0) (ka0 o ((i2 * 2) + 1) 0))))))] 5 ⟨zo, zo, zo, (fD _ _ _ zo), zo, zo, zo, y1, (k62 _ _ _ _)⟩ ?_
     refine uG [.w, .no] (qB ((i2 : Int) + 1)) [(4, oV 3 0 k2 2), (46, oV 1 0 n 2), (47, uV n), (48, iV (↑i2 + 1))] ⟨by omega, by omega⟩ ?_
     exact qH ⟨(((i2 + 1) : Nat), (k2 : Nat), ((kd9 u (((k2 - 1) * 2) + 1) (max (ka0 u (((k2 - 1) * 2) + 1) 0) (ka0 o ((i2 * 2) + 1) 0))) : List Int)), ⟨zo, (by exact hM.join ho zo rfl rfl zo zo rfl rfl), wI⟩⟩ [] (P := (kQ 0) ∧ (kQ k2) ∧ (kQ 0) ∧ (kQ n) ∧ (kM (n : Int)) ∧ (((((i2 + 1) : Nat) : Int) : Int) = ((i2 : Int) + 1)) ∧ (kY (dI .i64 o)) ∧ (kY (dI .i64 (kd9 u (((k2 - 1) * 2) + 1) (max (ka0 u (((k2 - 1) * 2) + 1) 0) (ka0 o ((i2 * 2) + 1) 0)))))) zk ⟨rfl, rfl, rfl, rfl, rfl, (by rfl), rfl, rfl⟩ (show n - (i2 + 1) < n - i2 from zo)
    ·have hx12 : 0 ≤ ka0 o (i2 * 2) 0 ∧ ka0 o (i2 * 2) 0 ≤ ka0 o (i2 * 2 + 1) 0 ∧ ka0 o (i2 * 2 + 1) 0 ≤ 2147483647 := hRo i2 zo
     have hx13 : 0 ≤ ka0 u ((k2 - 1) * 2 + 1) 0 ∧ ka0 u ((k2 - 1) * 2 + 1) 0 ≤ 2147483647 := hM.hi ho hRo zo
     refine kV [.no, .b true, .no, .no, .no, .w, .no, .no, .n2 (k2 - 1) ((k2 - 1) * 2), .no, .d (D.lit (.int .i64 (ka0 u (((k2 - 1) * 2) + 1) 0))), .b false, .no] ((((0 : Int) ≤ ((k2 : Int) - 1))) ∧ (qB ((ka0 o (i2 * 2) 0) - 1)) ∧ ((((k2 : Int) - 1) : Int) = (((k2 - 1) : Nat) : Int)) ∧ ((k2 - 1) < k2) ∧ ((0 : Nat) + (k2 - 1) * 2 = ((k2 - 1) * 2)) ∧ ((dI .i64 u)[(((k2 - 1) * 2) + 1)]? = some (D.lit (.int .i64 (ka0 u (((k2 - 1) * 2) + 1) 0)))) ∧ (¬ (((ka0 o (i2 * 2) 0) - 1) ≤ (ka0 u (((k2 - 1) * 2) + 1) 0)))) [(4, oV 3 0 k2 2), (9, rV 4 0), (10, iV (↑k2 - 1)), (46, oV 1 0 n 2), (47, uV n), (48, uV i2), (67, bV false)] ⟨zo, ⟨by omega, by omega⟩, zo, zo, zo, (fD _ _ _ zo), zo⟩ ?_
     refine zf ?_
     refine aC [.no, .no, .no, .ap none (k2 + 1) (dI .i64 (u ++ ([(ka0 o (i2 * 2) 0), (ka0 o ((i2 * 2) + 1) 0)] : List Int))), .no] (([iD (ka0 o (i2 * 2) 0), iD (ka0 o ((i2 * 2) + 1) 0)].length = 1 * 2) ∧ (((dI .i64 u) : List D).length = k2 * 2) ∧ ((k2 + 1) * 16 ≤ 140737488355328) ∧ (k2 + 1 = (k2 + 1)) ∧ (((dI .i64 u) : List D) ++ [iD (ka0 o (i2 * 2) 0), iD (ka0 o ((i2 * 2) + 1) 0)] = (dI .i64 (u ++ ([(ka0 o (i2 * 2) 0), (ka0 o ((i2 * 2) + 1) 0)] : List Int))))) [(4, oV 6 0 (k2 + 1) 2), (46, oV 1 0 n 2), (47, uV n), (48, uV i2)] [(1, some (90, .ds (dI .i64 o))), (6, some (90, .ds (dI .i64 (u ++ ([(ka0 o (i2 * 2) 0), (ka0 o ((i2 * 2) + 1) 0)] : List Int)))))] 7 ⟨y1, y1, zo, zo, (uK .i64 u ([(ka0 o (i2 * 2) 0), (ka0 o ((i2 * 2) + 1) 0)] : List Int))⟩ ?_
     refine uG [.w, .no] (qB ((i2 : Int) + 1)) [(4, oV 6 0 (k2 + 1) 2), (46, oV 1 0 n 2), (47, uV n), (48, iV (↑i2 + 1))] ⟨by omega, by omega⟩ ?_
     exact qH ⟨(((i2 + 1) : Nat), ((k2 + 1) : Nat), ((u ++ ([(ka0 o (i2 * 2) 0), (ka0 o ((i2 * 2) + 1) 0)] : List Int)) : List Int)), ⟨zo, (by exact hM.new ho zo rfl rfl zo rfl), wI⟩⟩ [(3, 6)] (P := (kQ 0) ∧ (kQ (k2 + 1)) ∧ (kQ 0) ∧ (kQ n) ∧ (kM (n : Int)) ∧ (((((i2 + 1) : Nat) : Int) : Int) = ((i2 : Int) + 1)) ∧ (kY (dI .i64 o)) ∧ (kY (dI .i64 (u ++ ([(ka0 o (i2 * 2) 0), (ka0 o ((i2 * 2) + 1) 0)] : List Int))))) zk ⟨rfl, rfl, rfl, rfl, rfl, (by rfl), rfl, rfl⟩ (show n - (i2 + 1) < n - i2 from zo)
   ·have hx14 : 0 ≤ ka0 o (i2 * 2) 0 ∧ ka0 o (i2 * 2) 0 ≤ ka0 o (i2 * 2 + 1) 0 ∧ ka0 o (i2 * 2 + 1) 0 ≤ 2147483647 := hRo i2 zo
    refine kV [.no, .b false, .no, .no] (¬ ((0 : Int) ≤ ((k2 : Int) - 1))) [(4, oV 3 0 k2 2), (9, rV 4 0), (10, iV (↑k2 - 1)), (46, oV 1 0 n 2), (47, uV n), (48, uV i2), (67, bV false)] zo ?_
    refine zf ?_
    refine aC [.no, .no, .no, .ap none (k2 + 1) (dI .i64 (u ++ ([(ka0 o (i2 * 2) 0), (ka0 o ((i2 * 2) + 1) 0)] : List Int))), .no] (([iD (ka0 o (i2 * 2) 0), iD (ka0 o ((i2 * 2) + 1) 0)].length = 1 * 2) ∧ (((dI .i64 u) : List D).length = k2 * 2) ∧ ((k2 + 1) * 16 ≤ 140737488355328) ∧ (k2 + 1 = (k2 + 1)) ∧ (((dI .i64 u) : List D) ++ [iD (ka0 o (i2 * 2) 0), iD (ka0 o ((i2 * 2) + 1) 0)] = (dI .i64 (u ++ ([(ka0 o (i2 * 2) 0), (ka0 o ((i2 * 2) + 1) 0)] : List Int))))) [(4, oV 6 0 (k2 + 1) 2), (46, oV 1 0 n 2), (47, uV n), (48, uV i2)] [(1, some (90, .ds (dI .i64 o))), (6, some (90, .ds (dI .i64 (u ++ ([(ka0 o (i2 * 2) 0), (ka0 o ((i2 * 2) + 1) 0)] : List Int)))))] 7 ⟨y1, y1, zo, zo, (uK .i64 u ([(ka0 o (i2 * 2) 0), (ka0 o ((i2 * 2) + 1) 0)] : List Int))⟩ ?_
    refine uG [.w, .no] (qB ((i2 : Int) + 1)) [(4, oV 6 0 (k2 + 1) 2), (46, oV 1 0 n 2), (47, uV n), (48, iV (↑i2 + 1))] ⟨by omega, by omega⟩ ?_
    exact qH ⟨(((i2 + 1) : Nat), ((k2 + 1) : Nat), ((u ++ ([(ka0 o (i2 * 2) 0), (ka0 o ((i2 * 2) + 1) 0)] : List Int)) : List Int)), ⟨zo, (by exact hM.new ho zo rfl rfl zo rfl), wI⟩⟩ [(3, 6)] (P := (kQ 0) ∧ (kQ (k2 + 1)) ∧ (kQ 0) ∧ (kQ n) ∧ (kM (n : Int)) ∧ (((((i2 + 1) : Nat) : Int) : Int) = ((i2 : Int) + 1)) ∧ (kY (dI .i64 o)) ∧ (kY (dI .i64 (u ++ ([(ka0 o (i2 * 2) 0), (ka0 o ((i2 * 2) + 1) 0)] : List Int))))) zk ⟨rfl, rfl, rfl, rfl, rfl, (by rfl), rfl, rfl⟩ (show n - (i2 + 1) < n - i2 from zo)
  ·refine kG [.b false] (¬ ((i2 : Int) < (n : Int))) [(4, oV 3 0 k2 2), (46, oV 1 0 n 2), (47, uV n), (48, uV i2), (49, bV false)] [(1, some (90, .ds (dI .i64 o))), (3, some (90, .ds (dI .i64 u)))] 4 zo ?_
   refine AW.seq ?_
   refine zf ?_
   refine AW.exit ?_
   refine kG [.no, .no] True [(2, oV 3 0 k2 2)] [(3, some (90, .ds (dI .i64 u)))] 4 trivial ?_
   obtain ⟨hz1, hz2⟩ := u2p hl hR ho (hS.all hl zo) hS.sr (by have h9 := hM; rw [show i2 = n by omega] at h9; exact h9)
   refine AW.freeze 3 (l' := [(2, sV .i64 u k2)]) (g' := []) rfl (FzS.cons rfl (.e (.c (@FzC.own 3 ((dI .i64 u) : List D) 0 k2 2 true ((dI .i64 u) : List D) (by rw [kd7, kc3 (by (simp only [aX, uF, ka4, kb3, kb6, kb4, kb9, kb8, kc4, kc8, kc6, kd0] <;> omega))]) y1))) FzS.nil) FzG.nil ?_
   refine AW.ret ?_
   exact kB (.inr rfl) [] (P := (((dI .i64 (rS l)) : List D) = (dI .i64 u)) ∧ (((lF l) : Nat) = k2)) zk ⟨(by exact congrArg _ hz1.symm), zo⟩
theorem k0m (l : List Int) (n : Nat) (hl : ka1 l = n * 2) (hb : n ≤ 1000000) : Fun 92 [.c (.d (D.sl (dI .i64 l) n))] (kD []) 0 (.tup [.agg [.d (D.sl (dI .i64 (dE l n)) (yZ l n))], iE (mG l n)]) (kD []) 0 := by
 refine Fun.mk (n := 39) Tryz.func92 rfl rfl (ka3 rfl) ?_
 intro cx hcx
 refine kG [.no, .no] True [(0, sV .i64 l n), (2, rV 0 0)] [(0, some (50, .ds [k9]))] 1 trivial ?_
 refine AW.seq ?_
 refine kV [.no, .no, .no] True [(0, sV .i64 l n), (2, rV 0 0), (7, sV .i64 l n), (8, uV n), (9, iV 0)] trivial ?_
 refine AW.block ?_
 refine kU 0 hcx (fun (x : {x : Nat // match x with | k => (k ≤ n) ∧ (∀ j, j < k → rgE l j = true)}) => match x with | ⟨k, _⟩ => (⟨[(0, sV .i64 l n), (2, rV 0 0), (7, sV .i64 l n), (8, uV n), (9, uV k)], [(0, some (50, .ds [k9]))], 1⟩ : ES)) (fun x => match x with | ⟨k, _⟩ => n - k) ⟨(0 : Nat), ⟨zo, (fun j hj => absurd hj (Nat.not_lt_zero j))⟩⟩ [] (P := (kY (dI .i64 l)) ∧ (kQ n) ∧ (kQ 0) ∧ (kY (dI .i64 l)) ∧ (kQ n) ∧ (kM (n : Int)) ∧ (kM 0) ∧ (kY [k9])) zk ⟨rfl, rfl, rfl, rfl, rfl, rfl, rfl, rfl⟩ ?_
 rintro ⟨k, hinv0⟩
 obtain ⟨hk, ha⟩ : (k ≤ n) ∧ (∀ j, j < k → rgE l j = true) := hinv0
 refine qV (l := [(0, sV .i64 l n), (2, rV 0 0), (7, sV .i64 l n), (8, uV n), (9, uV k)]) (g := [(0, some (50, .ds [k9]))]) (nx := 1) rfl rfl rfl ?_
 by_cases hx1 : (((k : Nat) : Int) < ((n : Nat) : Int))
 ·refine kG [.b true] (((k : Int) < (n : Int))) [(0, sV .i64 l n), (2, rV 0 0), (7, sV .i64 l n), (8, uV n), (9, uV k), (10, bV true)] [(0, some (50, .ds [k9]))] 1 zo ?_
  refine AW.seq ?_
  refine u1 ?_
  refine AW.seq ?_
  refine AW.block ?_
  refine kG [.n k, .ds [iD (ka0 l (k * 2) 0), iD (ka0 l ((k * 2) + 1) 0)], .no, .no] ((kM (k : Int)) ∧ (k < n) ∧ (ka2 2 (ka5 (k * 2) (dI .i64 l)) = [iD (ka0 l (k * 2) 0), iD (ka0 l ((k * 2) + 1) 0)]) ∧ (([iD (ka0 l (k * 2) 0), iD (ka0 l ((k * 2) + 1) 0)] : List D).length = 2)) [(0, sV .i64 l n), (2, rV 0 0), (5, rV 1 0), (7, sV .i64 l n), (8, uV n), (9, uV k)] [(0, some (50, .ds [k9])), (1, some (90, .ds [iD (ka0 l (k * 2) 0), iD (ka0 l ((k * 2) + 1) 0)]))] 2 ⟨rfl, zo, (aH .i64 l (k * 2) 2 zo), rfl⟩ ?_
  by_cases hx2 : ((ka0 l (k * 2) 0) < 0)
  ·refine kG (.no :: .no :: .b true :: kJ 4 []) (((ka0 l (k * 2) 0) < 0)) [(0, sV .i64 l n), (2, rV 0 0), (7, sV .i64 l n), (8, uV n), (9, uV k), (27, bV true)] [(0, some (50, .ds [k9]))] 2 zo ?_
   refine zt ?_
   refine kV [.no, .no, .no] True [(2, rV 0 0), (3, iV 2)] trivial ?_
   obtain ⟨hz1, hz2, hz3⟩ := xE (l := l) (n := n) (u20 (k := k) zo (decide_eq_false zo))
   refine y6 (l' := [(2, rV 0 0), (3, iV 2)]) (g' := [(0, some (50, .ds [D.sl ([] : List D) 0]))]) (NlS.cons rfl (.same _) (NlS.cons rfl (.same _) NlS.nil)) (NlG.to (bc := .ds [k9]) rfl (NlL.cons (.nil) NlL.nil) NlG.nil) ?_
   refine AW.ret ?_
   exact kB (.inr rfl) [] (P := (((dI .i64 (dE l n)) : List D) = ([] : List D)) ∧ (((yZ l n) : Nat) = 0) ∧ (((mG l n) : Int) = 2)) zk ⟨(by (rw [hz2]; rfl)), zo, zo⟩
  ·by_cases hx3 : ((ka0 l ((k * 2) + 1) 0) < (ka0 l (k * 2) 0))
   ·refine kG (.no :: .no :: .b false :: kJ 5 [.b true, .no, .no, .no]) ((¬ ((ka0 l (k * 2) 0) < 0)) ∧ (((ka0 l ((k * 2) + 1) 0) < (ka0 l (k * 2) 0)))) [(0, sV .i64 l n), (2, rV 0 0), (7, sV .i64 l n), (8, uV n), (9, uV k), (27, bV true)] [(0, some (50, .ds [k9]))] 2 ⟨zo, zo⟩ ?_
    refine zt ?_
    refine kV [.no, .no, .no] True [(2, rV 0 0), (3, iV 2)] trivial ?_
    obtain ⟨hz1, hz2, hz3⟩ := xE (l := l) (n := n) (u20 (k := k) zo (decide_eq_false zo))
    refine y6 (l' := [(2, rV 0 0), (3, iV 2)]) (g' := [(0, some (50, .ds [D.sl ([] : List D) 0]))]) (NlS.cons rfl (.same _) (NlS.cons rfl (.same _) NlS.nil)) (NlG.to (bc := .ds [k9]) rfl (NlL.cons (.nil) NlL.nil) NlG.nil) ?_
    refine AW.ret ?_
    exact kB (.inr rfl) [] (P := (((dI .i64 (dE l n)) : List D) = ([] : List D)) ∧ (((yZ l n) : Nat) = 0) ∧ (((mG l n) : Int) = 2)) zk ⟨(by (rw [hz2]; rfl)), zo, zo⟩
   ·by_cases hx4 : ((2147483647 : Int) < (ka0 l ((k * 2) + 1) 0))
    ·refine kG (.no :: .no :: .b false :: kJ 5 (.b false :: kJ 4 [.b true, .no])) ((¬ ((ka0 l (k * 2) 0) < 0)) ∧ (¬ ((ka0 l ((k * 2) + 1) 0) < (ka0 l (k * 2) 0))) ∧ (((2147483647 : Int) < (ka0 l ((k * 2) + 1) 0)))) [(0, sV .i64 l n), (2, rV 0 0), (7, sV .i64 l n), (8, uV n), (9, uV k), (27, bV true)] [(0, some (50, .ds [k9]))] 2 ⟨zo, zo, zo⟩ ?_
     refine zt ?_
     refine kV [.no, .no, .no] True [(2, rV 0 0), (3, iV 2)] trivial ?_
     obtain ⟨hz1, hz2, hz3⟩ := xE (l := l) (n := n) (u20 (k := k) zo (decide_eq_false zo))
     refine y6 (l' := [(2, rV 0 0), (3, iV 2)]) (g' := [(0, some (50, .ds [D.sl ([] : List D) 0]))]) (NlS.cons rfl (.same _) (NlS.cons rfl (.same _) NlS.nil)) (NlG.to (bc := .ds [k9]) rfl (NlL.cons (.nil) NlL.nil) NlG.nil) ?_
     refine AW.ret ?_
     exact kB (.inr rfl) [] (P := (((dI .i64 (dE l n)) : List D) = ([] : List D)) ∧ (((yZ l n) : Nat) = 0) ∧ (((mG l n) : Int) = 2)) zk ⟨(by (rw [hz2]; rfl)), zo, zo⟩
    ·refine kG (.no :: .no :: .b false :: kJ 5 (.b false :: kJ 4 [.b false, .no])) ((¬ ((ka0 l (k * 2) 0) < 0)) ∧ (¬ ((ka0 l ((k * 2) + 1) 0) < (ka0 l (k * 2) 0))) ∧ (¬ ((2147483647 : Int) < (ka0 l ((k * 2) + 1) 0)))) [(0, sV .i64 l n), (2, rV 0 0), (7, sV .i64 l n), (8, uV n), (9, uV k), (27, bV false)] [(0, some (50, .ds [k9]))] 2 ⟨zo, zo, zo⟩ ?_
     refine uM ?_
     refine uG [.w, .no] (qB ((k : Int) + 1)) [(0, sV .i64 l n), (2, rV 0 0), (7, sV .i64 l n), (8, uV n), (9, iV (↑k + 1))] ⟨by omega, by omega⟩ ?_
     exact qH ⟨((k + 1) : Nat), ⟨zo, (fun j hj => (Nat.lt_succ_iff_lt_or_eq.1 hj).elim (ha j) (fun e9 => by subst e9; exact decide_eq_true zo))⟩⟩ [] (P := (kY (dI .i64 l)) ∧ (kQ n) ∧ (kQ 0) ∧ (kY (dI .i64 l)) ∧ (kQ n) ∧ (kM (n : Int)) ∧ (((((k + 1) : Nat) : Int) : Int) = ((k : Int) + 1)) ∧ (kY [k9])) zk ⟨rfl, rfl, rfl, rfl, rfl, rfl, (by rfl), rfl⟩ (show n - (k + 1) < n - k from zo)
 ·refine kG [.b false] (¬ ((k : Int) < (n : Int))) [(0, sV .i64 l n), (2, rV 0 0), (7, sV .i64 l n), (8, uV n), (9, uV k), (10, bV false)] [(0, some (50, .ds [k9]))] 1 zo ?_
  refine AW.seq ?_
  refine zf ?_
  refine AW.exit ?_
  have hR : RG l n := jX.1 (u5b (fun j hj => ha j (by omega)))
  have hx5 : ((ka1 (rS l)) = ((lF l) * 2)) := xJ l
  have hx6 : ((lF l) ≤ n) := u0o (zo) (zo)
  refine kG [.no, .call [] (sV .i64 (rS l) (lF l)) [] 0 [] none, .no, .no, .no] _ [(2, rV 0 0), (6, rV 1 0)] [(0, some (50, .ds [k9])), (1, some (50, .ds [dl (rS l) (lF l)]))] 2 (k6p l n zo zo zo) ?_
  refine AW.seq ?_
  by_cases hx7 : ((64 : Int) < (((lF l) : Nat) : Int))
  ·refine kV [.no, .no, .no, .b true] (((64 : Int) < (lF l : Int))) [(2, rV 0 0), (6, rV 1 0), (36, bV true)] zo ?_
   refine zt ?_
   refine kG [.no, .no, .no] True [(2, rV 0 0), (3, iV 3)] [(0, some (50, .ds [k9]))] 2 trivial ?_
   obtain ⟨hz1, hz2, hz3⟩ := u2j (jX.2 hR) zo
   refine y6 (l' := [(2, rV 0 0), (3, iV 3)]) (g' := [(0, some (50, .ds [D.sl ([] : List D) 0]))]) (NlS.cons rfl (.same _) (NlS.cons rfl (.same _) NlS.nil)) (NlG.to (bc := .ds [k9]) rfl (NlL.cons (.nil) NlL.nil) NlG.nil) ?_
   refine AW.ret ?_
   exact kB (.inr rfl) [] (P := (((dI .i64 (dE l n)) : List D) = ([] : List D)) ∧ (((yZ l n) : Nat) = 0) ∧ (((mG l n) : Int) = 3)) zk ⟨(by (rw [hz2]; rfl)), zo, zo⟩
  ·refine kV [.no, .no, .no, .b false] (¬ ((64 : Int) < (lF l : Int))) [(2, rV 0 0), (6, rV 1 0), (36, bV false)] zo ?_
   refine uM ?_
   refine kG [.no, .no, .no] True [(2, rV 0 0), (3, iV 0)] [(0, some (50, .ds [dl (rS l) (lF l)]))] 2 trivial ?_
   obtain ⟨hz1, hz2, hz3⟩ := k02 (jX.2 hR) zo
   refine AW.ret ?_
   exact kB (.inr rfl) [] (P := (((dI .i64 (dE l n)) : List D) = (dI .i64 (rS l))) ∧ (((yZ l n) : Nat) = (lF l)) ∧ (((mG l n) : Int) = 0)) zk ⟨(by (rw [hz2]; done)), zo, zo⟩
end Go.Proofs.YtdbjebdomdnbkaaGreat
