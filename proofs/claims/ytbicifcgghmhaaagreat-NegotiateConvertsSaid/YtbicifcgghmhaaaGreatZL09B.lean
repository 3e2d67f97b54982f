/- Sets of integers: B. No statement is proved here. -/
import Derived.Test.YtbicifcgghmhaaaGreatZL09A
namespace Go.Proofs.YtbicifcgghmhaaaGreat
open Go.ChangeShapes Go.WideShapes Go.ChangeAt Go.RowKit
open List renaming drop → ka3, drop_drop → kc8, drop_zero → kd2, getD → ka1, length → ka0, length_append → ka6, length_cons → ka9, length_drop → kb2, length_map → kc3, length_nil → kb0, length_replicate → kb4, length_reverse → kc1, length_set → kb8, length_take → kb1, set → kj8, take → ka5, take_of_length_le → kb9
open Nat renaming le_of_ble_eq_true → ka4, mul_one → kc7
set_option linter.unusedVariables false
set_option linter.unusedSimpArgs false
set_option maxHeartbeats 4000000
set_option maxRecDepth 100000
theorem cN {p : Prop} (h : p := by first | omega | assumption | simp) : p := h
theorem uS {p : Prop} (h : p := by first | omega | (simp only [uU, qV, ka6, ka9, kb0, kb1, kb2, kb4, kb8, kc3, kc1, kc7] <;> omega) | rfl) : p := h
theorem eK {p : Prop} (h : p := by first | rfl | omega | assumption | (simp; done) | (simp; omega)) : p := h
theorem g6 {p : Prop} (h : p := by first | omega | (show _ < _; simp; omega)) : p := h
theorem rR {p : Prop} (h : p := by simp only [dF, aK, Nat.zero_mul, Nat.one_mul, kd2]) : p := h
theorem k0b {p : Prop} (h : p := by first | assumption | (simp only [uU, ka6, ka9, kb0, kb8] <;> omega)) : p := h
theorem bY {p : Prop} (h : p := by first | omega | rfl | assumption | (simp; done) | (simp; omega)) : p := h
abbrev fI (l : List Int) (i : Nat) : BC := .ds [iD (ka1 l (i * 2) 0), iD (ka1 l ((i * 2) + 1) 0)]
theorem u0p (l : List Int) (n : Nat) (hl : ka0 l = n * 2) (hb : n ≤ 1000000) (hR : RG l n) : Fun 127 [.c (.d (D.sl (dI .i64 l) n))] (kF []) 0 (sV .i64 (wI l) (mK l)) (kF []) 0 := by
 refine Fun.mk (n := 86) Tryz.func127 rfl rfl (ka4 rfl) ?_
 intro cx hcx
 refine kI [.no] True [(0, sV .i64 l n)] [] 0 trivial ?_
 refine kS [.no, .no] True [(0, sV .i64 l n), (3, nV), (4, nV)] trivial ?_
 refine AW.seq ?_
 refine kS [.no, .no, .no] True [(3, nV), (4, nV), (11, sV .i64 l n), (12, uV n), (13, iV 0)] trivial ?_
 refine AW.block ?_
 refine AW.adoptS 3 2 95 rfl ?_
 refine qF 0 hcx (fun (x : {x : Nat × List Int // match x with | (i, o) => (i ≤ n) ∧ (SI l i o) ∧ (ka0 o = i * 2)}) => match x with | ⟨(i, o), _⟩ => (⟨[(3, oV 1 0 i 2), (4, nV), (11, sV .i64 l n), (12, uV n), (13, uV i)], [(1, some (95, .ds (dI .i64 o)))], 2⟩ : ES)) (fun x => match x with | ⟨(i, o), _⟩ => n - i) ⟨((0 : Nat), (([] : List Int) : List Int)), ⟨cN, (SI.zero l), rfl⟩⟩ [(1, 0)] (P := (kH 0) ∧ (kH 0) ∧ ((.slice none 0 0 : Value) = .slice none 0 0) ∧ (kM (dI .i64 l)) ∧ (kH n) ∧ (kP (n : Int)) ∧ (kP 0) ∧ (((dI .i64 ([] : List Int)) : List D) = ([] : List D))) zk ⟨rfl, rfl, rfl, rfl, rfl, rfl, rfl, (by first | rfl | with_reducible assumption)⟩ ?_
 rintro ⟨⟨i, o⟩, hinv0⟩
 obtain ⟨hi, hS, ho⟩ : (i ≤ n) ∧ (SI l i o) ∧ (ka0 o = i * 2) := hinv0
 refine uG (l := [(3, oV 1 0 i 2), (4, nV), (11, sV .i64 l n), (12, uV n), (13, uV i)]) (g := [(1, some (95, .ds (dI .i64 o)))]) (nx := 2) rfl rfl rfl ?_
 by_cases hx1 : (((i : Nat) : Int) < ((n : Nat) : Int))
 ·refine kI [.b true] (((i : Int) < (n : Int))) [(3, oV 1 0 i 2), (4, nV), (11, sV .i64 l n), (12, uV n), (13, uV i), (14, bV true)] [(1, some (95, .ds (dI .i64 o)))] 2 zo ?_
  refine AW.seq ?_
  refine vO ?_
  refine AW.seq ?_
  refine AW.block ?_
  refine kI [.n i, .ds [iD (ka1 l (i * 2) 0), iD (ka1 l ((i * 2) + 1) 0)], .no, .no] ((kP (i : Int)) ∧ (i < n) ∧ (ka5 2 (ka3 (i * 2) (dI .i64 l)) = [iD (ka1 l (i * 2) 0), iD (ka1 l ((i * 2) + 1) 0)]) ∧ (([iD (ka1 l (i * 2) 0), iD (ka1 l ((i * 2) + 1) 0)] : List D).length = 2)) [(3, oV 1 0 i 2), (4, nV), (6, rV 2 0), (11, sV .i64 l n), (12, uV n), (13, uV i)] [(1, some (95, .ds (dI .i64 o))), (2, some (95, (fI l i)))] 3 ⟨rfl, zo, (b7 .i64 l (i * 2) 2 uS), rfl⟩ ?_
  refine AW.freeze 1 (l' := [(3, sV .i64 o i), (4, nV), (6, rV 2 0), (11, sV .i64 l n), (12, uV n), (13, uV i)]) (g' := [(2, some (95, (fI l i)))]) rfl (FzS.cons rfl (.e (.c (@FzC.own 1 ((dI .i64 o) : List D) 0 i 2 true ((dI .i64 o) : List D) (by rw [kd2, kb9 (by first | omega | (simp only [uU, qV, ka6, ka9, kb0, kb1, kb2, kb4, kb8, kc3, kc1, kc7] <;> omega))]) uS))) (FzS.cons rfl (.same _) (FzS.cons rfl (.same _) (FzS.cons rfl (.same _) (FzS.cons rfl (.same _) (FzS.cons rfl (.same _) FzS.nil)))))) (yH rfl rfl FzG.nil) ?_
  refine kI [.no, .no, .no] True [(3, sV .i64 o i), (4, nV), (6, rV 2 0), (7, uV i), (11, sV .i64 l n), (12, uV n), (13, uV i)] [(2, some (95, (fI l i)))] 3 trivial ?_
  refine AW.seq ?_
  refine AW.block ?_
  refine qF 0 hcx (fun (x : {x : Nat // match x with | k => (k ≤ i) ∧ (∀ j, k ≤ j → j < i → ka1 l (i * 2) 0 < ka1 o (j * 2) 0)}) => match x with | ⟨k, _⟩ => (⟨[(3, sV .i64 o i), (4, nV), (6, rV 2 0), (7, uV k), (11, sV .i64 l n), (12, uV n), (13, uV i)], [(2, some (95, (fI l i)))], 3⟩ : ES)) (fun x => match x with | ⟨k, _⟩ => k) ⟨(i : Nat), ⟨cN, (fun j h8 h9 => by omega)⟩⟩ [] (P := (kM (dI .i64 o)) ∧ (kH i) ∧ ((.slice none 0 0 : Value) = .slice none 0 0) ∧ (kH 0) ∧ (kP (i : Int)) ∧ (kM (dI .i64 l)) ∧ (kH n) ∧ (kP (n : Int)) ∧ (kP (i : Int)) ∧ (kM [iD (ka1 l (i * 2) 0), iD (ka1 l ((i * 2) + 1) 0)])) zk ⟨rfl, rfl, rfl, rfl, rfl, rfl, rfl, rfl, rfl, rfl⟩ ?_
  rintro ⟨k, hinv1⟩
  obtain ⟨hk, hk2⟩ : (k ≤ i) ∧ (∀ j, k ≤ j → j < i → ka1 l (i * 2) 0 < ka1 o (j * 2) 0) := hinv1
  refine uG (l := [(3, sV .i64 o i), (4, nV), (6, rV 2 0), (7, uV k), (11, sV .i64 l n), (12, uV n), (13, uV i)]) (g := [(2, some (95, (fI l i)))]) (nx := 3) rfl rfl rfl ?_
  refine AW.seq ?_
  by_cases hx2 : ((0 : Int) < ((k : Nat) : Int))
  ·by_cases hx3 : ((ka1 l (i * 2) 0) < (ka1 o ((k - 1) * 2) 0))
   ·refine kI [.no, .b true, .no, .no, .no, .w, .n (k - 1), .no, .d (D.lit (.int .i64 (ka1 o ((k - 1) * 2) 0))), .no, .no, .b true, .no] ((((0 : Int) < (k : Int))) ∧ ((-9223372036854775808) ≤ ((k : Int) - 1) ∧ ((k : Int) - 1) ≤ 9223372036854775807) ∧ ((((k : Int) - 1) : Int) = (((k - 1) : Nat) : Int)) ∧ ((k - 1) < i) ∧ ((ka3 0 (ka3 ((k - 1) * 2) (dI .i64 o)))[0]? = some (D.lit (.int .i64 (ka1 o ((k - 1) * 2) 0)))) ∧ (((ka1 l (i * 2) 0) < (ka1 o ((k - 1) * 2) 0)))) [(3, sV .i64 o i), (4, nV), (6, rV 2 0), (7, uV k), (11, sV .i64 l n), (12, uV n), (13, uV i), (31, bV true)] [(2, some (95, (fI l i)))] 3 ⟨zo, ⟨by omega, by omega⟩, (by first | rfl | omega), zo, (by first | (rw [kc8]; exact yG _ _ _ uS) | (rw [kc8, Nat.add_comm]; exact yG _ _ _ uS)), zo⟩ ?_
    refine vO ?_
    refine AW.block ?_
    refine yK [.no, .w, .no] ((-9223372036854775808) ≤ ((k : Int) - 1) ∧ ((k : Int) - 1) ≤ 9223372036854775807) [(3, sV .i64 o i), (4, nV), (6, rV 2 0), (7, iV (↑k - 1)), (11, sV .i64 l n), (12, uV n), (13, uV i)] ⟨by omega, by omega⟩ ?_
    exact Rd.of ⟨((k - 1) : Nat), ⟨cN, (k7y hk2 zo zo)⟩⟩ [] (P := (kM (dI .i64 o)) ∧ (kH i) ∧ ((.slice none 0 0 : Value) = .slice none 0 0) ∧ (kH 0) ∧ (((((k - 1) : Nat) : Int) : Int) = ((k : Int) - 1)) ∧ (kM (dI .i64 l)) ∧ (kH n) ∧ (kP (n : Int)) ∧ (kP (i : Int)) ∧ (kM [iD (ka1 l (i * 2) 0), iD (ka1 l ((i * 2) + 1) 0)])) zk ⟨rfl, rfl, rfl, rfl, eK, rfl, rfl, rfl, rfl, rfl⟩ (show (k - 1) < k from g6)
   ·refine kI [.no, .b true, .no, .no, .no, .w, .n (k - 1), .no, .d (D.lit (.int .i64 (ka1 o ((k - 1) * 2) 0))), .no, .no, .b false, .no] ((((0 : Int) < (k : Int))) ∧ ((-9223372036854775808) ≤ ((k : Int) - 1) ∧ ((k : Int) - 1) ≤ 9223372036854775807) ∧ ((((k : Int) - 1) : Int) = (((k - 1) : Nat) : Int)) ∧ ((k - 1) < i) ∧ ((ka3 0 (ka3 ((k - 1) * 2) (dI .i64 o)))[0]? = some (D.lit (.int .i64 (ka1 o ((k - 1) * 2) 0)))) ∧ (¬ ((ka1 l (i * 2) 0) < (ka1 o ((k - 1) * 2) 0)))) [(3, sV .i64 o i), (4, nV), (6, rV 2 0), (7, uV k), (11, sV .i64 l n), (12, uV n), (13, uV i), (31, bV false)] [(2, some (95, (fI l i)))] 3 ⟨zo, ⟨by omega, by omega⟩, (by first | rfl | omega), zo, (by first | (rw [kc8]; exact yG _ _ _ uS) | (rw [kc8, Nat.add_comm]; exact yG _ _ _ uS)), zo⟩ ?_
    refine zf ?_
    refine AW.exit ?_
    refine aB [.no, .no, .sls 0 k k (dI .i64 (ka5 (k * 2) o)), .ap none k (dI .i64 (ka5 (k * 2) o)), .no, .no, .ap none (k + 1) (dI .i64 ((ka5 (k * 2) o) ++ ([(ka1 l (i * 2) 0), (ka1 l ((i * 2) + 1) 0)] : List Int))), .no, .no, .sls k i (i - k) (dI .i64 (ka5 ((i - k) * 2) (ka3 (k * 2) o))), .ap none ((k + 1) + (i - k)) (dI .i64 (((ka5 (k * 2) o) ++ ([(ka1 l (i * 2) 0), (ka1 l ((i * 2) + 1) 0)] : List Int)) ++ (ka5 ((i - k) * 2) (ka3 (k * 2) o)))), .no] ((kH 0) ∧ (kP (k : Int)) ∧ ((0 : Nat) ≤ k) ∧ (k ≤ i) ∧ (k - 0 = k) ∧ (ka5 (k * 2) (ka3 (0 * 2) (dI .i64 o)) = (dI .i64 (ka5 (k * 2) o))) ∧ ((dI .i64 (ka5 (k * 2) o)).length = k * 2) ∧ (k * 16 ≤ 140737488355328) ∧ (k = k) ∧ (kM (dI .i64 (ka5 (k * 2) o))) ∧ ([iD (ka1 l (i * 2) 0), iD (ka1 l ((i * 2) + 1) 0)].length = 1 * 2) ∧ (((dI .i64 (ka5 (k * 2) o)) : List D).length = k * 2) ∧ ((k + 1) * 16 ≤ 140737488355328) ∧ (k + 1 = (k + 1)) ∧ (((dI .i64 (ka5 (k * 2) o)) : List D) ++ [iD (ka1 l (i * 2) 0), iD (ka1 l ((i * 2) + 1) 0)] = (dI .i64 ((ka5 (k * 2) o) ++ ([(ka1 l (i * 2) 0), (ka1 l ((i * 2) + 1) 0)] : List Int)))) ∧ (kP (k : Int)) ∧ (i = i) ∧ (k ≤ i) ∧ (i ≤ i) ∧ (i - k = (i - k)) ∧ (ka5 ((i - k) * 2) (ka3 (k * 2) (dI .i64 o)) = (dI .i64 (ka5 ((i - k) * 2) (ka3 (k * 2) o)))) ∧ ((dI .i64 (ka5 ((i - k) * 2) (ka3 (k * 2) o))).length = (i - k) * 2) ∧ (((dI .i64 ((ka5 (k * 2) o) ++ ([(ka1 l (i * 2) 0), (ka1 l ((i * 2) + 1) 0)] : List Int))) : List D).length = (k + 1) * 2) ∧ (((k + 1) + (i - k)) * 16 ≤ 140737488355328) ∧ ((k + 1) + (i - k) = ((k + 1) + (i - k))) ∧ (((dI .i64 ((ka5 (k * 2) o) ++ ([(ka1 l (i * 2) 0), (ka1 l ((i * 2) + 1) 0)] : List Int))) : List D) ++ (dI .i64 (ka5 ((i - k) * 2) (ka3 (k * 2) o))) = (dI .i64 (((ka5 (k * 2) o) ++ ([(ka1 l (i * 2) 0), (ka1 l ((i * 2) + 1) 0)] : List Int)) ++ (ka5 ((i - k) * 2) (ka3 (k * 2) o)))))) [(3, oV 6 0 ((k + 1) + (i - k)) 2), (4, nV), (11, sV .i64 l n), (12, uV n), (13, uV i)] [(6, some (95, .ds (dI .i64 (((ka5 (k * 2) o) ++ ([(ka1 l (i * 2) 0), (ka1 l ((i * 2) + 1) 0)] : List Int)) ++ (ka5 ((i - k) * 2) (ka3 (k * 2) o))))))] 7 ⟨rfl, rfl, zo, zo, zo, rR, uS, zo, rfl, rfl, uS, uS, zo, zo, (y4 .i64 (ka5 (k * 2) o) ([(ka1 l (i * 2) 0), (ka1 l ((i * 2) + 1) 0)] : List Int)), rfl, rfl, zo, zo, zo, rR, uS, uS, zo, zo, (y4 .i64 ((ka5 (k * 2) o) ++ ([(ka1 l (i * 2) 0), (ka1 l ((i * 2) + 1) 0)] : List Int)) (ka5 ((i - k) * 2) (ka3 (k * 2) o)))⟩ ?_
    refine yK [.w, .no] ((-9223372036854775808) ≤ ((i : Int) + 1) ∧ ((i : Int) + 1) ≤ 9223372036854775807) [(3, oV 6 0 ((k + 1) + (i - k)) 2), (4, nV), (11, sV .i64 l n), (12, uV n), (13, iV (↑i + 1))] ⟨by omega, by omega⟩ ?_
    exact Rd.of ⟨(((i + 1) : Nat), ((((ka5 (k * 2) o) ++ ([(ka1 l (i * 2) 0), (ka1 l ((i * 2) + 1) 0)] : List Int)) ++ (ka5 ((i - k) * 2) (ka3 (k * 2) o))) : List Int)), ⟨cN, (hS.step hl zo rfl rfl zo (fun j h8 h9 => hk2 j h8 zo) zo (by first | rfl | (congr 1; exact (kb9 (by rw [kb2]; omega))))), (by simp only [uU, ka6, ka9, kb0, kb1, kb2] <;> omega)⟩⟩ [(1, 6)] (P := (kH 0) ∧ (((i + 1) : Nat) = ((k + 1) + (i - k))) ∧ ((.slice none 0 0 : Value) = .slice none 0 0) ∧ (kM (dI .i64 l)) ∧ (kH n) ∧ (kP (n : Int)) ∧ (((((i + 1) : Nat) : Int) : Int) = ((i : Int) + 1)) ∧ (kM (dI .i64 (((ka5 (k * 2) o) ++ ([(ka1 l (i * 2) 0), (ka1 l ((i * 2) + 1) 0)] : List Int)) ++ (ka5 ((i - k) * 2) (ka3 (k * 2) o)))))) zk ⟨rfl, eK, rfl, rfl, rfl, rfl, eK, rfl⟩ (show n - (i + 1) < n - i from g6)
  ·refine kI [.no, .b false, .no, .no] (¬ ((0 : Int) < (k : Int))) [(3, sV .i64 o i), (4, nV), (6, rV 2 0), (7, uV k), (11, sV .i64 l n), (12, uV n), (13, uV i), (31, bV false)] [(2, some (95, (fI l i)))] 3 zo ?_
   refine zf ?_
   refine AW.exit ?_
   refine aB [.no, .no, .sls 0 k k (dI .i64 (ka5 (k * 2) o)), .ap none k (dI .i64 (ka5 (k * 2) o)), .no, .no, .ap none (k + 1) (dI .i64 ((ka5 (k * 2) o) ++ ([(ka1 l (i * 2) 0), (ka1 l ((i * 2) + 1) 0)] : List Int))), .no, .no, .sls k i (i - k) (dI .i64 (ka5 ((i - k) * 2) (ka3 (k * 2) o))), .ap none ((k + 1) + (i - k)) (dI .i64 (((ka5 (k * 2) o) ++ ([(ka1 l (i * 2) 0), (ka1 l ((i * 2) + 1) 0)] : List Int)) ++ (ka5 ((i - k) * 2) (ka3 (k * 2) o)))), .no] ((kH 0) ∧ (kP (k : Int)) ∧ ((0 : Nat) ≤ k) ∧ (k ≤ i) ∧ (k - 0 = k) ∧ (ka5 (k * 2) (ka3 (0 * 2) (dI .i64 o)) = (dI .i64 (ka5 (k * 2) o))) ∧ ((dI .i64 (ka5 (k * 2) o)).length = k * 2) ∧ (k * 16 ≤ 140737488355328) ∧ (k = k) ∧ (kM (dI .i64 (ka5 (k * 2) o))) ∧ ([iD (ka1 l (i * 2) 0), iD (ka1 l ((i * 2) + 1) 0)].length = 1 * 2) ∧ (((dI .i64 (ka5 (k * 2) o)) : List D).length = k * 2) ∧ ((k + 1) * 16 ≤ 140737488355328) ∧ (k + 1 = (k + 1)) ∧ (((dI .i64 (ka5 (k * 2) o)) : List D) ++ [iD (ka1 l (i * 2) 0), iD (ka1 l ((i * 2) + 1) 0)] = (dI .i64 ((ka5 (k * 2) o) ++ ([(ka1 l (i * 2) 0), (ka1 l ((i * 2) + 1) 0)] : List Int)))) ∧ (kP (k : Int)) ∧ (i = i) ∧ (k ≤ i) ∧ (i ≤ i) ∧ (i - k = (i - k)) ∧ (ka5 ((i - k) * 2) (ka3 (k * 2) (dI .i64 o)) = (dI .i64 (ka5 ((i - k) * 2) (ka3 (k * 2) o)))) ∧ ((dI .i64 (ka5 ((i - k) * 2) (ka3 (k * 2) o))).length = (i - k) * 2) ∧ (((dI .i64 ((ka5 (k * 2) o) ++ ([(ka1 l (i * 2) 0), (ka1 l ((i * 2) + 1) 0)] : List Int))) : List D).length = (k + 1) * 2) ∧ (((k + 1) + (i - k)) * 16 ≤ 140737488355328) ∧ ((k + 1) + (i - k) = ((k + 1) + (i - k))) ∧ (((dI .i64 ((ka5 (k * 2) o) ++ ([(ka1 l (i * 2) 0), (ka1 l ((i * 2) + 1) 0)] : List Int))) : List D) ++ (dI .i64 (ka5 ((i - k) * 2) (ka3 (k * 2) o))) = (dI .i64 (((ka5 (k * 2) o) ++ ([(ka1 l (i * 2) 0), (ka1 l ((i * 2) + 1) 0)] : List Int)) ++ (ka5 ((i - k) * 2) (ka3 (k * 2) o)))))) [(3, oV 6 0 ((k + 1) + (i - k)) 2), (4, nV), (11, sV .i64 l n), (12, uV n), (13, uV i)] [(6, some (95, .ds (dI .i64 (((ka5 (k * 2) o) ++ ([(ka1 l (i * 2) 0), (ka1 l ((i * 2) + 1) 0)] : List Int)) ++ (ka5 ((i - k) * 2) (ka3 (k * 2) o))))))] 7 ⟨rfl, rfl, zo, zo, zo, rR, uS, zo, rfl, rfl, uS, uS, zo, zo, (y4 .i64 (ka5 (k * 2) o) ([(ka1 l (i * 2) 0), (ka1 l ((i * 2) + 1) 0)] : List Int)), rfl, rfl, zo, zo, zo, rR, uS, uS, zo, zo, (y4 .i64 ((ka5 (k * 2) o) ++ ([(ka1 l (i * 2) 0), (ka1 l ((i * 2) + 1) 0)] : List Int)) (ka5 ((i - k) * 2) (ka3 (k * 2) o)))⟩ ?_
   refine yK [.w, .no] ((-9223372036854775808) ≤ ((i : Int) + 1) ∧ ((i : Int) + 1) ≤ 9223372036854775807) [(3, oV 6 0 ((k + 1) + (i - k)) 2), (4, nV), (11, sV .i64 l n), (12, uV n), (13, iV (↑i + 1))] ⟨by omega, by omega⟩ ?_
   exact Rd.of ⟨(((i + 1) : Nat), ((((ka5 (k * 2) o) ++ ([(ka1 l (i * 2) 0), (ka1 l ((i * 2) + 1) 0)] : List Int)) ++ (ka5 ((i - k) * 2) (ka3 (k * 2) o))) : List Int)), ⟨cN, (hS.step hl zo rfl rfl zo (fun j h8 h9 => hk2 j h8 zo) zo (by first | rfl | (congr 1; exact (kb9 (by rw [kb2]; omega))))), (by simp only [uU, ka6, ka9, kb0, kb1, kb2] <;> omega)⟩⟩ [(1, 6)] (P := (kH 0) ∧ (((i + 1) : Nat) = ((k + 1) + (i - k))) ∧ ((.slice none 0 0 : Value) = .slice none 0 0) ∧ (kM (dI .i64 l)) ∧ (kH n) ∧ (kP (n : Int)) ∧ (((((i + 1) : Nat) : Int) : Int) = ((i : Int) + 1)) ∧ (kM (dI .i64 (((ka5 (k * 2) o) ++ ([(ka1 l (i * 2) 0), (ka1 l ((i * 2) + 1) 0)] : List Int)) ++ (ka5 ((i - k) * 2) (ka3 (k * 2) o)))))) zk ⟨rfl, eK, rfl, rfl, rfl, rfl, eK, rfl⟩ (show n - (i + 1) < n - i from g6)
 ·refine kI [.b false] (¬ ((i : Int) < (n : Int))) [(3, oV 1 0 i 2), (4, nV), (11, sV .i64 l n), (12, uV n), (13, uV i), (14, bV false)] [(1, some (95, .ds (dI .i64 o)))] 2 zo ?_
  refine AW.seq ?_
  refine zf ?_
  refine AW.exit ?_
  refine AW.seq ?_
  obtain rfl : n = i := (by omega)
  have hRo : RG o n := hS.rg hl (by omega) hR
  refine kI [.no, .no, .no] True [(4, nV), (46, oV 1 0 n 2), (47, uV n), (48, iV 0)] [(1, some (95, .ds (dI .i64 o)))] 2 trivial ?_
  refine AW.block ?_
  refine AW.adoptS 4 2 95 rfl ?_
  refine qF 0 hcx (fun (x : {x : Nat × Nat × List Int // match x with | (i2, k2, u) => (i2 ≤ n ∧ k2 ≤ i2) ∧ (MG o i2 k2 u) ∧ (ka0 u = k2 * 2)}) => match x with | ⟨(i2, k2, u), _⟩ => (⟨[(4, oV 3 0 k2 2), (46, oV 1 0 n 2), (47, uV n), (48, uV i2)], [(1, some (95, .ds (dI .i64 o))), (3, some (95, .ds (dI .i64 u)))], 4⟩ : ES)) (fun x => match x with | ⟨(i2, k2, u), _⟩ => n - i2) ⟨((0 : Nat), (0 : Nat), (([] : List Int) : List Int)), ⟨cN, (MG.zero _), rfl⟩⟩ [(3, 2)] (P := (kH 0) ∧ (kH 0) ∧ (kH 0) ∧ (kH n) ∧ (kP (n : Int)) ∧ (kP 0) ∧ (kM (dI .i64 o)) ∧ (((dI .i64 ([] : List Int)) : List D) = ([] : List D))) zk ⟨rfl, rfl, rfl, rfl, rfl, rfl, rfl, (by first | rfl | with_reducible assumption)⟩ ?_
  rintro ⟨⟨i2, k2, u⟩, hinv2⟩
  obtain ⟨hi2, hM, hu⟩ : (i2 ≤ n ∧ k2 ≤ i2) ∧ (MG o i2 k2 u) ∧ (ka0 u = k2 * 2) := hinv2
  refine uG (l := [(4, oV 3 0 k2 2), (46, oV 1 0 n 2), (47, uV n), (48, uV i2)]) (g := [(1, some (95, .ds (dI .i64 o))), (3, some (95, .ds (dI .i64 u)))]) (nx := 4) rfl rfl rfl ?_
  by_cases hx4 : (((i2 : Nat) : Int) < ((n : Nat) : Int))
  ·refine kI [.b true] (((i2 : Int) < (n : Int))) [(4, oV 3 0 k2 2), (46, oV 1 0 n 2), (47, uV n), (48, uV i2), (49, bV true)] [(1, some (95, .ds (dI .i64 o))), (3, some (95, .ds (dI .i64 u)))] 4 zo ?_
   refine AW.seq ?_
   refine vO ?_
   refine AW.seq ?_
   refine AW.block ?_
   refine kI [.n2 i2 (i2 * 2), .ds [iD (ka1 o (i2 * 2) 0), iD (ka1 o ((i2 * 2) + 1) 0)], .no, .no] ((kP (i2 : Int)) ∧ (i2 < n) ∧ ((0 : Nat) + i2 * 2 = (i2 * 2)) ∧ (ka5 2 (ka3 (i2 * 2) (dI .i64 o)) = [iD (ka1 o (i2 * 2) 0), iD (ka1 o ((i2 * 2) + 1) 0)]) ∧ (([iD (ka1 o (i2 * 2) 0), iD (ka1 o ((i2 * 2) + 1) 0)] : List D).length = 2)) [(4, oV 3 0 k2 2), (9, rV 4 0), (46, oV 1 0 n 2), (47, uV n), (48, uV i2)] [(1, some (95, .ds (dI .i64 o))), (3, some (95, .ds (dI .i64 u))), (4, some (95, .ds [iD (ka1 o (i2 * 2) 0), iD (ka1 o ((i2 * 2) + 1) 0)]))] 5 ⟨rfl, zo, zo, (b7 .i64 o (i2 * 2) 2 uS), rfl⟩ ?_
   refine kS [.no, .no, .w, .no] ((-9223372036854775808) ≤ ((k2 : Int) - 1) ∧ ((k2 : Int) - 1) ≤ 9223372036854775807) [(4, oV 3 0 k2 2), (9, rV 4 0), (10, iV (↑k2 - 1)), (46, oV 1 0 n 2), (47, uV n), (48, uV i2)] ⟨by omega, by omega⟩ ?_
   by_cases hx6 : ((0 : Int) ≤ (((k2 : Nat) : Int) - 1))
   ·by_cases hx9 : (((ka1 o (i2 * 2) 0) - 1) ≤ (ka1 u (((k2 - 1) * 2) + 1) 0))
    ·have hx10 : 0 ≤ ka1 o (i2 * 2) 0 ∧ ka1 o (i2 * 2) 0 ≤ ka1 o (i2 * 2 + 1) 0 ∧ ka1 o (i2 * 2 + 1) 0 ≤ 2147483647 := hRo i2 zo
     have hx11 : 0 ≤ ka1 u ((k2 - 1) * 2 + 1) 0 ∧ ka1 u ((k2 - 1) * 2 + 1) 0 ≤ 2147483647 := hM.hi ho hRo zo
     refine kS [.no, .b true, .no, .no, .no, .w, .no, .no, .n2 (k2 - 1) ((k2 - 1) * 2), .no, .d (D.lit (.int .i64 (ka1 u (((k2 - 1) * 2) + 1) 0))), .b true, .no] ((((0 : Int) ≤ ((k2 : Int) - 1))) ∧ ((-9223372036854775808) ≤ ((ka1 o (i2 * 2) 0) - 1) ∧ ((ka1 o (i2 * 2) 0) - 1) ≤ 9223372036854775807) ∧ ((((k2 : Int) - 1) : Int) = (((k2 - 1) : Nat) : Int)) ∧ ((k2 - 1) < k2) ∧ ((0 : Nat) + (k2 - 1) * 2 = ((k2 - 1) * 2)) ∧ ((dI .i64 u)[(((k2 - 1) * 2) + 1)]? = some (D.lit (.int .i64 (ka1 u (((k2 - 1) * 2) + 1) 0)))) ∧ ((((ka1 o (i2 * 2) 0) - 1) ≤ (ka1 u (((k2 - 1) * 2) + 1) 0)))) [(4, oV 3 0 k2 2), (9, rV 4 0), (10, iV (↑k2 - 1)), (46, oV 1 0 n 2), (47, uV n), (48, uV i2), (67, bV true)] ⟨zo, ⟨by omega, by omega⟩, (by first | rfl | omega), zo, zo, (k1n _ _ _ uS), zo⟩ ?_
     refine zt ?_
     refine aB (qN 4 [.n2 (k2 - 1) ((k2 - 1) * 2), .no, .d (D.lit (.int .i64 (ka1 u (((k2 - 1) * 2) + 1) 0))), .no, .no, .no, .n2 (k2 - 1) ((k2 - 1) * 2), .no, .ds (dI .i64 (kj8 u (((k2 - 1) * 2) + 1) (max (ka1 u (((k2 - 1) * 2) + 1) 0) (ka1 o ((i2 * 2) + 1) 0))))]) (((((k2 : Int) - 1) : Int) = (((k2 - 1) : Nat) : Int)) ∧ ((k2 - 1) < k2) ∧ ((0 : Nat) + (k2 - 1) * 2 = ((k2 - 1) * 2)) ∧ ((dI .i64 u)[(((k2 - 1) * 2) + 1)]? = some (D.lit (.int .i64 (ka1 u (((k2 - 1) * 2) + 1) 0)))) ∧ ((((k2 : Int) - 1) : Int) = (((k2 - 1) : Nat) : Int)) ∧ ((k2 - 1) < k2) ∧ ((0 : Nat) + (k2 - 1) * 2 = ((k2 - 1) * 2)) ∧ ((((k2 - 1) * 2) + 1) + 1 ≤ (dI .i64 u).length) ∧ (oN (dI .i64 u) (((k2 - 1) * 2) + 1) [D.lit (.int .i64 (max (ka1 u (((k2 - 1) * 2) + 1) 0) (ka1 o ((i2 * 2) + 1) 0)))] = dI .i64 (kj8 u (((k2 - 1) * 2) + 1) (max (ka1 u (((k2 - 1) * 2) + 1) 0) (ka1 o ((i2 * 2) + 1) 0))))) [(4, oV 3 0 k2 2), (46, oV 1 0 n 2), (47, uV n), (48, uV i2)] [(1, some (95, .ds (dI .i64 o))), (3, some (95, .ds (dI .i64 (kj8 u (((k2 - 1) * 2) + 1) (max (ka1 u (((k2 - 1) * 2) + 1) 0) (ka1 o ((i2 * 2) + 1) 0))))))] 5 ⟨(by first | rfl | omega), zo, zo, (k1n _ _ _ uS), (by first | rfl | omega), zo, zo, uS, (u8f _ _ _ _)⟩ ?_
     refine yK [.w, .no] ((-9223372036854775808) ≤ ((i2 : Int) + 1) ∧ ((i2 : Int) + 1) ≤ 9223372036854775807) [(4, oV 3 0 k2 2), (46, oV 1 0 n 2), (47, uV n), (48, iV (↑i2 + 1))] ⟨by omega, by omega⟩ ?_
     exact Rd.of ⟨(((i2 + 1) : Nat), (k2 : Nat), ((kj8 u (((k2 - 1) * 2) + 1) (max (ka1 u (((k2 - 1) * 2) + 1) 0) (ka1 o ((i2 * 2) + 1) 0))) : List Int)), ⟨cN, (by first | exact hM.new ho zo rfl rfl zo rfl | exact hM.join ho zo rfl rfl zo zo rfl rfl), k0b⟩⟩ [] (P := (kH 0) ∧ (kH k2) ∧ (kH 0) ∧ (kH n) ∧ (kP (n : Int)) ∧ (((((i2 + 1) : Nat) : Int) : Int) = ((i2 : Int) + 1)) ∧ (kM (dI .i64 o)) ∧ (kM (dI .i64 (kj8 u (((k2 - 1) * 2) + 1) (max (ka1 u (((k2 - 1) * 2) + 1) 0) (ka1 o ((i2 * 2) + 1) 0)))))) zk ⟨rfl, rfl, rfl, rfl, rfl, eK, rfl, rfl⟩ (show n - (i2 + 1) < n - i2 from g6)
    ·have hx12 : 0 ≤ ka1 o (i2 * 2) 0 ∧ ka1 o (i2 * 2) 0 ≤ ka1 o (i2 * 2 + 1) 0 ∧ ka1 o (i2 * 2 + 1) 0 ≤ 2147483647 := hRo i2 zo
     have hx13 : 0 ≤ ka1 u ((k2 - 1) * 2 + 1) 0 ∧ ka1 u ((k2 - 1) * 2 + 1) 0 ≤ 2147483647 := hM.hi ho hRo zo
     refine kS [.no, .b true, .no, .no, .no, .w, .no, .no, .n2 (k2 - 1) ((k2 - 1) * 2), .no, .d (D.lit (.int .i64 (ka1 u (((k2 - 1) * 2) + 1) 0))), .b false, .no] ((((0 : Int) ≤ ((k2 : Int) - 1))) ∧ ((-9223372036854775808) ≤ ((ka1 o (i2 * 2) 0) - 1) ∧ ((ka1 o (i2 * 2) 0) - 1) ≤ 9223372036854775807) ∧ ((((k2 : Int) - 1) : Int) = (((k2 - 1) : Nat) : Int)) ∧ ((k2 - 1) < k2) ∧ ((0 : Nat) + (k2 - 1) * 2 = ((k2 - 1) * 2)) ∧ ((dI .i64 u)[(((k2 - 1) * 2) + 1)]? = some (D.lit (.int .i64 (ka1 u (((k2 - 1) * 2) + 1) 0)))) ∧ (¬ (((ka1 o (i2 * 2) 0) - 1) ≤ (ka1 u (((k2 - 1) * 2) + 1) 0)))) [(4, oV 3 0 k2 2), (9, rV 4 0), (10, iV (↑k2 - 1)), (46, oV 1 0 n 2), (47, uV n), (48, uV i2), (67, bV false)] ⟨zo, ⟨by omega, by omega⟩, (by first | rfl | omega), zo, zo, (k1n _ _ _ uS), zo⟩ ?_
     refine zf ?_
     refine aB [.no, .no, .no, .ap none (k2 + 1) (dI .i64 (u ++ ([(ka1 o (i2 * 2) 0), (ka1 o ((i2 * 2) + 1) 0)] : List Int))), .no] (([iD (ka1 o (i2 * 2) 0), iD (ka1 o ((i2 * 2) + 1) 0)].length = 1 * 2) ∧ (((dI .i64 u) : List D).length = k2 * 2) ∧ ((k2 + 1) * 16 ≤ 140737488355328) ∧ (k2 + 1 = (k2 + 1)) ∧ (((dI .i64 u) : List D) ++ [iD (ka1 o (i2 * 2) 0), iD (ka1 o ((i2 * 2) + 1) 0)] = (dI .i64 (u ++ ([(ka1 o (i2 * 2) 0), (ka1 o ((i2 * 2) + 1) 0)] : List Int))))) [(4, oV 6 0 (k2 + 1) 2), (46, oV 1 0 n 2), (47, uV n), (48, uV i2)] [(1, some (95, .ds (dI .i64 o))), (6, some (95, .ds (dI .i64 (u ++ ([(ka1 o (i2 * 2) 0), (ka1 o ((i2 * 2) + 1) 0)] : List Int)))))] 7 ⟨uS, uS, zo, zo, (y4 .i64 u ([(ka1 o (i2 * 2) 0), (ka1 o ((i2 * 2) + 1) 0)] : List Int))⟩ ?_
     refine yK [.w, .no] ((-9223372036854775808) ≤ ((i2 : Int) + 1) ∧ ((i2 : Int) + 1) ≤ 9223372036854775807) [(4, oV 6 0 (k2 + 1) 2), (46, oV 1 0 n 2), (47, uV n), (48, iV (↑i2 + 1))] ⟨by omega, by omega⟩ ?_
     exact Rd.of ⟨(((i2 + 1) : Nat), ((k2 + 1) : Nat), ((u ++ ([(ka1 o (i2 * 2) 0), (ka1 o ((i2 * 2) + 1) 0)] : List Int)) : List Int)), ⟨cN, (by first | exact hM.new ho zo rfl rfl zo rfl | exact hM.join ho zo rfl rfl zo zo rfl rfl), k0b⟩⟩ [(3, 6)] (P := (kH 0) ∧ (kH (k2 + 1)) ∧ (kH 0) ∧ (kH n) ∧ (kP (n : Int)) ∧ (((((i2 + 1) : Nat) : Int) : Int) = ((i2 : Int) + 1)) ∧ (kM (dI .i64 o)) ∧ (kM (dI .i64 (u ++ ([(ka1 o (i2 * 2) 0), (ka1 o ((i2 * 2) + 1) 0)] : List Int))))) zk ⟨rfl, rfl, rfl, rfl, rfl, eK, rfl, rfl⟩ (show n - (i2 + 1) < n - i2 from g6)
   ·have hx14 : 0 ≤ ka1 o (i2 * 2) 0 ∧ ka1 o (i2 * 2) 0 ≤ ka1 o (i2 * 2 + 1) 0 ∧ ka1 o (i2 * 2 + 1) 0 ≤ 2147483647 := hRo i2 zo
    refine kS [.no, .b false, .no, .no] (¬ ((0 : Int) ≤ ((k2 : Int) - 1))) [(4, oV 3 0 k2 2), (9, rV 4 0), (10, iV (↑k2 - 1)), (46, oV 1 0 n 2), (47, uV n), (48, uV i2), (67, bV false)] zo ?_
    refine zf ?_
    refine aB [.no, .no, .no, .ap none (k2 + 1) (dI .i64 (u ++ ([(ka1 o (i2 * 2) 0), (ka1 o ((i2 * 2) + 1) 0)] : List Int))), .no] (([iD (ka1 o (i2 * 2) 0), iD (ka1 o ((i2 * 2) + 1) 0)].length = 1 * 2) ∧ (((dI .i64 u) : List D).length = k2 * 2) ∧ ((k2 + 1) * 16 ≤ 140737488355328) ∧ (k2 + 1 = (k2 + 1)) ∧ (((dI .i64 u) : List D) ++ [iD (ka1 o (i2 * 2) 0), iD (ka1 o ((i2 * 2) + 1) 0)] = (dI .i64 (u ++ ([(ka1 o (i2 * 2) 0), (ka1 o ((i2 * 2) + 1) 0)] : List Int))))) [(4, oV 6 0 (k2 + 1) 2), (46, oV 1 0 n 2), (47, uV n), (48, uV i2)] [(1, some (95, .ds (dI .i64 o))), (6, some (95, .ds (dI .i64 (u ++ ([(ka1 o (i2 * 2) 0), (ka1 o ((i2 * 2) + 1) 0)] : List Int)))))] 7 ⟨uS, uS, zo, zo, (y4 .i64 u ([(ka1 o (i2 * 2) 0), (ka1 o ((i2 * 2) + 1) 0)] : List Int))⟩ ?_
    refine yK [.w, .no] ((-9223372036854775808) ≤ ((i2 : Int) + 1) ∧ ((i2 : Int) + 1) ≤ 9223372036854775807) [(4, oV 6 0 (k2 + 1) 2), (46, oV 1 0 n 2), (47, uV n), (48, iV (↑i2 + 1))] ⟨by omega, by omega⟩ ?_
    exact Rd.of ⟨(((i2 + 1) : Nat), ((k2 + 1) : Nat), ((u ++ ([(ka1 o (i2 * 2) 0), (ka1 o ((i2 * 2) + 1) 0)] : List Int)) : List Int)), ⟨cN, (by first | exact hM.new ho zo rfl rfl zo rfl | exact hM.join ho zo rfl rfl zo zo rfl rfl), k0b⟩⟩ [(3, 6)] (P := (kH 0) ∧ (kH (k2 + 1)) ∧ (kH 0) ∧ (kH n) ∧ (kP (n : Int)) ∧ (((((i2 + 1) : Nat) : Int) : Int) = ((i2 : Int) + 1)) ∧ (kM (dI .i64 o)) ∧ (kM (dI .i64 (u ++ ([(ka1 o (i2 * 2) 0), (ka1 o ((i2 * 2) + 1) 0)] : List Int))))) zk ⟨rfl, rfl, rfl, rfl, rfl, eK, rfl, rfl⟩ (show n - (i2 + 1) < n - i2 from g6)
  ·refine kI [.b false] (¬ ((i2 : Int) < (n : Int))) [(4, oV 3 0 k2 2), (46, oV 1 0 n 2), (47, uV n), (48, uV i2), (49, bV false)] [(1, some (95, .ds (dI .i64 o))), (3, some (95, .ds (dI .i64 u)))] 4 zo ?_
   refine AW.seq ?_
   refine zf ?_
   refine AW.exit ?_
   refine kI [.no, .no] True [(2, oV 3 0 k2 2)] [(3, some (95, .ds (dI .i64 u)))] 4 trivial ?_
   obtain ⟨hz1, hz2⟩ := u7g hl hR ho (hS.all hl zo) hS.sr (by have h9 := hM; rw [show i2 = n by omega] at h9; exact h9)
   refine AW.freeze 3 (l' := [(2, sV .i64 u k2)]) (g' := []) rfl (FzS.cons rfl (.e (.c (@FzC.own 3 ((dI .i64 u) : List D) 0 k2 2 true ((dI .i64 u) : List D) (by rw [kd2, kb9 (by first | omega | (simp only [uU, qV, ka6, ka9, kb0, kb1, kb2, kb4, kb8, kc3, kc1, kc7] <;> omega))]) uS))) FzS.nil) FzG.nil ?_
   refine AW.ret ?_
   exact EndP.of (.inr rfl) [] (P := (((dI .i64 (wI l)) : List D) = (dI .i64 u)) ∧ (((mK l) : Nat) = k2)) zk ⟨(by first | rfl | exact congrArg _ hz1.symm), bY⟩
theorem k52 (l : List Int) (n : Nat) (hl : ka0 l = n * 2) (hb : n ≤ 1000000) (h1 : 1 ≤ n) : Fun 133 [.c (.d (D.sl (dI .i64 l) n))] (kF []) 0 (oV 0 0 n 2) (kF [(0, some (95, .ds (dI .i64 l)))]) 1 := by
 refine Fun.mk (n := 8) Tryz.func133 rfl rfl (ka4 rfl) ?_
 intro cx hcx
 refine kI [.no] True [(0, sV .i64 l n)] [] 0 trivial ?_
 refine AW.seq ?_
 refine kS [.no, .no] (1 ≤ n) [(0, sV .i64 l n), (4, bV false)] zo ?_
 refine u9 ?_
 refine kI [.no, .no, .ap none (0 + n) (dI .i64 l), .no] (((dI .i64 l).length = n * 2) ∧ ((([] : List D) : List D).length = 0 * 2) ∧ ((0 + n) * 16 ≤ 140737488355328) ∧ ((0 : Nat) + n = (0 + n)) ∧ ((([] : List D) : List D) ++ (dI .i64 l) = (dI .i64 l))) [(2, oV 1 0 (0 + n) 2)] [(1, some (95, .ds (dI .i64 l)))] 2 ⟨uS, uS, zo, zo, rfl⟩ ?_
 refine AW.ret ?_
 exact EndP.of (.inr rfl) [(0, 1)] (P := (kH 0) ∧ ((n : Nat) = (0 + n)) ∧ (kM (dI .i64 l))) zk ⟨rfl, bY, rfl⟩
theorem k51   : Fun 133 [.c (.d (D.lit (.slice none 0 0)))] (kF []) 0 (oV 0 0 0 2) (kF [(0, some (95, .ds ([] : List D)))]) 1 := by
 refine Fun.mk (n := 8) Tryz.func133 rfl rfl (ka4 rfl) ?_
 intro cx hcx
 refine kI [.no] True [(0, nV)] [] 0 trivial ?_
 refine AW.seq ?_
 refine kS [.no, .no] True [(0, nV), (4, bV true)] trivial ?_
 refine zt ?_
 refine kS [.no] True [(2, nV)] trivial ?_
 refine AW.adoptS 2 2 95 rfl ?_
 refine AW.ret ?_
 exact EndP.of (.inr rfl) [] (P := (kH 0) ∧ (kH 0) ∧ (kM ([] : List D))) zk ⟨rfl, rfl, rfl⟩
theorem k50 (a : Addr) (cap : Nat) (hm : cap ≤ maxLen) : Fun 133 [.c (.d (D.lit (.slice (some a) 0 cap)))] (kF []) 0 (oV 0 0 0 2) (kF [(0, some (95, .ds ([] : List D)))]) 1 := by
 refine Fun.mk (n := 8) Tryz.func133 rfl rfl (ka4 rfl) ?_
 intro cx hcx
 refine kI [.no] True [(0, u1 (D.lit (.slice (some a) 0 cap)))] [] 0 trivial ?_
 refine AW.seq ?_
 refine kS [.no, .no] True [(0, u1 (D.lit (.slice (some a) 0 cap))), (4, bV false)] trivial ?_
 refine u9 ?_
 refine k01 0 hm (fun h9 => by cases h9) rfl ?_
 refine kI [.no, .no, .ap none 0 ([] : List D), .no] ((([] : List D).length = 0 * 2) ∧ ((([] : List D) : List D).length = 0 * 2) ∧ ((0 + 0) * 16 ≤ 140737488355328) ∧ ((0 : Nat) + 0 = 0) ∧ ((([] : List D) : List D) ++ ([] : List D) = ([] : List D))) [(2, oV 1 0 0 2)] [(1, some (95, .ds ([] : List D)))] 2 ⟨uS, uS, zo, zo, rfl⟩ ?_
 refine AW.ret ?_
 exact EndP.of (.inr rfl) [(0, 1)] (P := (kH 0) ∧ (kH 0) ∧ (kM ([] : List D))) zk ⟨rfl, rfl, rfl⟩
theorem u3l (l : List Int) (n : Nat) (hl : ka0 l = n * 2) (hb : n ≤ 1000000) : Fun 133 [.c (.d (D.sl (dI .i64 l) n))] (kF []) 0 (oV 0 0 n 2) (kF [(0, some (95, .ds (dI .i64 l)))]) 1 := by
 by_cases h1 : 1 ≤ n
 ·exact k52 l n hl hb h1
 ·obtain rfl : n = 0 := by omega
  obtain rfl : l = [] := List.eq_nil_of_length_eq_zero hl
  exact Fun.nil0 k51 (fun a cap hm => k50 a cap hm)
theorem k3o (l : List Int) (n : Nat) (hl : ka0 l = n * 2) (hb : n ≤ 1000000) : Fun 90 [.c (.d (D.sl (dI .i64 l) n))] (kF []) 0 (.tup [.agg [.d (D.sl (dI .i64 (eX l n)) (vM l n))], iE (o5 l n)]) (kF []) 0 := by
 refine Fun.mk (n := 39) Tryz.func90 rfl rfl (ka4 rfl) ?_
 intro cx hcx
 refine kI [.no, .no] True [(0, sV .i64 l n), (2, rV 0 0)] [(0, some (60, .ds [qQ]))] 1 trivial ?_
 refine AW.seq ?_
 refine kS [.no, .no, .no] True [(0, sV .i64 l n), (2, rV 0 0), (7, sV .i64 l n), (8, uV n), (9, iV 0)] trivial ?_
 refine AW.block ?_
 refine qF 0 hcx (fun (x : {x : Nat // match x with | k => (k ≤ n) ∧ (∀ j, j < k → rgE l j = true)}) => match x with | ⟨k, _⟩ => (⟨[(0, sV .i64 l n), (2, rV 0 0), (7, sV .i64 l n), (8, uV n), (9, uV k)], [(0, some (60, .ds [qQ]))], 1⟩ : ES)) (fun x => match x with | ⟨k, _⟩ => n - k) ⟨(0 : Nat), ⟨cN, (fun j hj => absurd hj (Nat.not_lt_zero j))⟩⟩ [] (P := (kM (dI .i64 l)) ∧ (kH n) ∧ (kH 0) ∧ (kM (dI .i64 l)) ∧ (kH n) ∧ (kP (n : Int)) ∧ (kP 0) ∧ (kM [qQ])) zk ⟨rfl, rfl, rfl, rfl, rfl, rfl, rfl, rfl⟩ ?_
 rintro ⟨k, hinv0⟩
 obtain ⟨hk, ha⟩ : (k ≤ n) ∧ (∀ j, j < k → rgE l j = true) := hinv0
 refine uG (l := [(0, sV .i64 l n), (2, rV 0 0), (7, sV .i64 l n), (8, uV n), (9, uV k)]) (g := [(0, some (60, .ds [qQ]))]) (nx := 1) rfl rfl rfl ?_
 by_cases hx1 : (((k : Nat) : Int) < ((n : Nat) : Int))
 ·refine kI [.b true] (((k : Int) < (n : Int))) [(0, sV .i64 l n), (2, rV 0 0), (7, sV .i64 l n), (8, uV n), (9, uV k), (10, bV true)] [(0, some (60, .ds [qQ]))] 1 zo ?_
  refine AW.seq ?_
  refine vO ?_
  refine AW.seq ?_
  refine AW.block ?_
  refine kI [.n k, .ds [iD (ka1 l (k * 2) 0), iD (ka1 l ((k * 2) + 1) 0)], .no, .no] ((kP (k : Int)) ∧ (k < n) ∧ (ka5 2 (ka3 (k * 2) (dI .i64 l)) = [iD (ka1 l (k * 2) 0), iD (ka1 l ((k * 2) + 1) 0)]) ∧ (([iD (ka1 l (k * 2) 0), iD (ka1 l ((k * 2) + 1) 0)] : List D).length = 2)) [(0, sV .i64 l n), (2, rV 0 0), (5, rV 1 0), (7, sV .i64 l n), (8, uV n), (9, uV k)] [(0, some (60, .ds [qQ])), (1, some (95, .ds [iD (ka1 l (k * 2) 0), iD (ka1 l ((k * 2) + 1) 0)]))] 2 ⟨rfl, zo, (b7 .i64 l (k * 2) 2 uS), rfl⟩ ?_
  by_cases hx2 : ((ka1 l (k * 2) 0) < 0)
  ·refine kI (.no :: .no :: .b true :: qN 4 []) (((ka1 l (k * 2) 0) < 0)) [(0, sV .i64 l n), (2, rV 0 0), (7, sV .i64 l n), (8, uV n), (9, uV k), (27, bV true)] [(0, some (60, .ds [qQ]))] 2 zo ?_
   refine zt ?_
   refine kS [.no, .no, .no] True [(2, rV 0 0), (3, iV 2)] trivial ?_
   obtain ⟨hz1, hz2, hz3⟩ := sT (l := l) (n := n) (u6m (k := k) zo (decide_eq_false zo))
   refine vK (l' := [(2, rV 0 0), (3, iV 2)]) (g' := [(0, some (60, .ds [D.sl ([] : List D) 0]))]) (NlS.cons rfl (.same _) (NlS.cons rfl (.same _) NlS.nil)) (NlG.to (bc := .ds [qQ]) rfl (NlL.cons (.nil) NlL.nil) NlG.nil) ?_
   refine AW.ret ?_
   exact EndP.of (.inr rfl) [] (P := (((dI .i64 (eX l n)) : List D) = ([] : List D)) ∧ (((vM l n) : Nat) = 0) ∧ (((o5 l n) : Int) = 2)) zk ⟨(by first | (rw [hz2]; done) | (rw [hz2]; rfl) | (rw [hz2, hz0]; done) | (rw [hz2, hz0]; rfl)), bY, bY⟩
  ·by_cases hx3 : ((ka1 l ((k * 2) + 1) 0) < (ka1 l (k * 2) 0))
   ·refine kI (.no :: .no :: .b false :: qN 5 [.b true, .no, .no, .no]) ((¬ ((ka1 l (k * 2) 0) < 0)) ∧ (((ka1 l ((k * 2) + 1) 0) < (ka1 l (k * 2) 0)))) [(0, sV .i64 l n), (2, rV 0 0), (7, sV .i64 l n), (8, uV n), (9, uV k), (27, bV true)] [(0, some (60, .ds [qQ]))] 2 ⟨zo, zo⟩ ?_
    refine zt ?_
    refine kS [.no, .no, .no] True [(2, rV 0 0), (3, iV 2)] trivial ?_
    obtain ⟨hz1, hz2, hz3⟩ := sT (l := l) (n := n) (u6m (k := k) zo (decide_eq_false zo))
    refine vK (l' := [(2, rV 0 0), (3, iV 2)]) (g' := [(0, some (60, .ds [D.sl ([] : List D) 0]))]) (NlS.cons rfl (.same _) (NlS.cons rfl (.same _) NlS.nil)) (NlG.to (bc := .ds [qQ]) rfl (NlL.cons (.nil) NlL.nil) NlG.nil) ?_
    refine AW.ret ?_
    exact EndP.of (.inr rfl) [] (P := (((dI .i64 (eX l n)) : List D) = ([] : List D)) ∧ (((vM l n) : Nat) = 0) ∧ (((o5 l n) : Int) = 2)) zk ⟨(by first | (rw [hz2]; done) | (rw [hz2]; rfl) | (rw [hz2, hz0]; done) | (rw [hz2, hz0]; rfl)), bY, bY⟩
   ·by_cases hx4 : ((2147483647 : Int) < (ka1 l ((k * 2) + 1) 0))
    ·refine kI (.no :: .no :: .b false :: qN 5 (.b false :: qN 4 [.b true, .no])) ((¬ ((ka1 l (k * 2) 0) < 0)) ∧ (¬ ((ka1 l ((k * 2) + 1) 0) < (ka1 l (k * 2) 0))) ∧ (((2147483647 : Int) < (ka1 l ((k * 2) + 1) 0)))) [(0, sV .i64 l n), (2, rV 0 0), (7, sV .i64 l n), (8, uV n), (9, uV k), (27, bV true)] [(0, some (60, .ds [qQ]))] 2 ⟨zo, zo, zo⟩ ?_
     refine zt ?_
     refine kS [.no, .no, .no] True [(2, rV 0 0), (3, iV 2)] trivial ?_
     obtain ⟨hz1, hz2, hz3⟩ := sT (l := l) (n := n) (u6m (k := k) zo (decide_eq_false zo))
     refine vK (l' := [(2, rV 0 0), (3, iV 2)]) (g' := [(0, some (60, .ds [D.sl ([] : List D) 0]))]) (NlS.cons rfl (.same _) (NlS.cons rfl (.same _) NlS.nil)) (NlG.to (bc := .ds [qQ]) rfl (NlL.cons (.nil) NlL.nil) NlG.nil) ?_
     refine AW.ret ?_
     exact EndP.of (.inr rfl) [] (P := (((dI .i64 (eX l n)) : List D) = ([] : List D)) ∧ (((vM l n) : Nat) = 0) ∧ (((o5 l n) : Int) = 2)) zk ⟨(by first | (rw [hz2]; done) | (rw [hz2]; rfl) | (rw [hz2, hz0]; done) | (rw [hz2, hz0]; rfl)), bY, bY⟩
    ·refine kI (.no :: .no :: .b false :: qN 5 (.b false :: qN 4 [.b false, .no])) ((¬ ((ka1 l (k * 2) 0) < 0)) ∧ (¬ ((ka1 l ((k * 2) + 1) 0) < (ka1 l (k * 2) 0))) ∧ (¬ ((2147483647 : Int) < (ka1 l ((k * 2) + 1) 0)))) [(0, sV .i64 l n), (2, rV 0 0), (7, sV .i64 l n), (8, uV n), (9, uV k), (27, bV false)] [(0, some (60, .ds [qQ]))] 2 ⟨zo, zo, zo⟩ ?_
     refine u9 ?_
     refine yK [.w, .no] ((-9223372036854775808) ≤ ((k : Int) + 1) ∧ ((k : Int) + 1) ≤ 9223372036854775807) [(0, sV .i64 l n), (2, rV 0 0), (7, sV .i64 l n), (8, uV n), (9, iV (↑k + 1))] ⟨by omega, by omega⟩ ?_
     exact Rd.of ⟨((k + 1) : Nat), ⟨cN, (fun j hj => (Nat.lt_succ_iff_lt_or_eq.1 hj).elim (ha j) (fun e9 => by subst e9; exact decide_eq_true zo))⟩⟩ [] (P := (kM (dI .i64 l)) ∧ (kH n) ∧ (kH 0) ∧ (kM (dI .i64 l)) ∧ (kH n) ∧ (kP (n : Int)) ∧ (((((k + 1) : Nat) : Int) : Int) = ((k : Int) + 1)) ∧ (kM [qQ])) zk ⟨rfl, rfl, rfl, rfl, rfl, rfl, eK, rfl⟩ (show n - (k + 1) < n - k from g6)
 ·refine kI [.b false] (¬ ((k : Int) < (n : Int))) [(0, sV .i64 l n), (2, rV 0 0), (7, sV .i64 l n), (8, uV n), (9, uV k), (10, bV false)] [(0, some (60, .ds [qQ]))] 1 zo ?_
  refine AW.seq ?_
  refine zf ?_
  refine AW.exit ?_
  have hR : RG l n := lB.1 (u9x (fun j hj => ha j (by omega)))
  have hx5 : ((ka0 (wI l)) = ((mK l) * 2)) := k14 l
  have hx6 : ((mK l) ≤ n) := k7n (zo) ((by first | omega | with_reducible assumption | (simp only [uU, ka6, ka9, kb0, kb1, kb2, kb4, kb8] <;> omega) | rfl | assumption))
  refine kI [.no, .call [] (sV .i64 (wI l) (mK l)) [] 0 [] none, .no, .no, .no] _ [(2, rV 0 0), (6, rV 1 0)] [(0, some (60, .ds [qQ])), (1, some (60, .ds [dl (wI l) (mK l)]))] 2 (u0p l n zo zo (by first | omega | with_reducible assumption | (simp only [uU, ka6, ka9, kb0, kb1, kb2, kb4, kb8] <;> omega) | rfl | assumption)) ?_
  refine AW.seq ?_
  by_cases hx7 : ((64 : Int) < (((mK l) : Nat) : Int))
  ·refine kS [.no, .no, .no, .b true] (((64 : Int) < (mK l : Int))) [(2, rV 0 0), (6, rV 1 0), (36, bV true)] zo ?_
   refine zt ?_
   refine kI [.no, .no, .no] True [(2, rV 0 0), (3, iV 3)] [(0, some (60, .ds [qQ]))] 2 trivial ?_
   obtain ⟨hz1, hz2, hz3⟩ := k74 (lB.2 hR) zo
   refine vK (l' := [(2, rV 0 0), (3, iV 3)]) (g' := [(0, some (60, .ds [D.sl ([] : List D) 0]))]) (NlS.cons rfl (.same _) (NlS.cons rfl (.same _) NlS.nil)) (NlG.to (bc := .ds [qQ]) rfl (NlL.cons (.nil) NlL.nil) NlG.nil) ?_
   refine AW.ret ?_
   exact EndP.of (.inr rfl) [] (P := (((dI .i64 (eX l n)) : List D) = ([] : List D)) ∧ (((vM l n) : Nat) = 0) ∧ (((o5 l n) : Int) = 3)) zk ⟨(by first | (rw [hz2]; done) | (rw [hz2]; rfl) | (rw [hz2, hz0]; done) | (rw [hz2, hz0]; rfl)), bY, bY⟩
  ·refine kS [.no, .no, .no, .b false] (¬ ((64 : Int) < (mK l : Int))) [(2, rV 0 0), (6, rV 1 0), (36, bV false)] zo ?_
   refine u9 ?_
   refine kI [.no, .no, .no] True [(2, rV 0 0), (3, iV 0)] [(0, some (60, .ds [dl (wI l) (mK l)]))] 2 trivial ?_
   obtain ⟨hz1, hz2, hz3⟩ := sS (lB.2 hR) zo
   refine AW.ret ?_
   exact EndP.of (.inr rfl) [] (P := (((dI .i64 (eX l n)) : List D) = (dI .i64 (wI l))) ∧ (((vM l n) : Nat) = (mK l)) ∧ (((o5 l n) : Int) = 0)) zk ⟨(by first | (rw [hz2]; done) | (rw [hz2]; rfl) | (rw [hz2, hz0]; done) | (rw [hz2, hz0]; rfl)), bY, bY⟩
end Go.Proofs.YtbicifcgghmhaaaGreat
