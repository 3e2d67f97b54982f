/- Sets of integers: B. No statement is proved here. -/
import Derived.Test.YtdbjebdomdnbkaaZL09A
namespace Go.Proofs.Ytdbjebdomdnbkaa
open Go.ChangeShapes Go.WideShapes Go.ChangeAt Go.RowKit
open List renaming drop → ka7, drop_drop → kf6, drop_zero → kd1, getD → ka0, length → ka1, length_append → ka3, length_cons → kb1, length_drop → kb2, length_map → kc3, length_nil → kb5, length_replicate → kb6, length_reverse → kc7, length_set → kc2, length_take → kb3, set → kj3, take → ka2, take_of_length_le → kc4
open Nat renaming le_of_ble_eq_true → ka4, mul_one → kc6
set_option linter.unusedVariables false
set_option linter.unusedSimpArgs false
set_option maxHeartbeats 4000000
set_option maxRecDepth 100000
theorem a7 {p : Prop} (h : p := by first | omega | assumption | simp) : p := h
theorem uF {p : Prop} (h : p := by first | omega | (simp only [u2, qM, ka3, kb1, kb5, kb3, kb2, kb6, kc2, kc3, kc7, kc6] <;> omega) | rfl) : p := h
theorem c4 {p : Prop} (h : p := by first | rfl | omega | assumption | (simp; done) | (simp; omega)) : p := h
theorem fR {p : Prop} (h : p := by first | omega | (show _ < _; simp; omega)) : p := h
theorem oS {p : Prop} (h : p := by simp only [yO, uA, Nat.zero_mul, Nat.one_mul, kd1]) : p := h
theorem wY {p : Prop} (h : p := by first | assumption | (simp only [u2, ka3, kb1, kb5, kc2] <;> omega)) : p := h
theorem a9 {p : Prop} (h : p := by first | omega | rfl | assumption | (simp; done) | (simp; omega)) : p := h
abbrev eA (l : List Int) (i : Nat) : BC := .ds [iD (ka0 l (i * 2) 0), iD (ka0 l ((i * 2) + 1) 0)]
theorem k6r (l : List Int) (n : Nat) (hl : ka1 l = n * 2) (hb : n ≤ 1000000) (hR : RG l n) : Fun 92 [.c (.d (D.sl (dI .i64 l) n))] (kF []) 0 (sV .i64 (sU l) (l9 l)) (kF []) 0 := by
 refine Fun.mk (n := 86) Try.func92 rfl rfl (ka4 rfl) ?_
 intro cx hcx
 refine kI [.no] True [(0, sV .i64 l n)] [] 0 trivial ?_
 refine k8 [.no, .no] True [(0, sV .i64 l n), (3, nV), (4, nV)] trivial ?_
 refine AW.seq ?_
 refine k8 [.no, .no, .no] True [(3, nV), (4, nV), (11, sV .i64 l n), (12, uV n), (13, iV 0)] trivial ?_
 refine AW.block ?_
 refine AW.adoptS 3 2 84 rfl ?_
 refine kX 0 hcx (fun (x : {x : Nat × List Int // match x with | (i, o) => (i ≤ n) ∧ (SI l i o) ∧ (ka1 o = i * 2)}) => match x with | ⟨(i, o), _⟩ => (⟨[(3, oV 1 0 i 2), (4, nV), (11, sV .i64 l n), (12, uV n), (13, uV i)], [(1, some (84, .ds (dI .i64 o)))], 2⟩ : ES)) (fun x => match x with | ⟨(i, o), _⟩ => n - i) ⟨((0 : Nat), (([] : List Int) : List Int)), ⟨a7, (SI.zero l), rfl⟩⟩ [(1, 0)] (P := (kP 0) ∧ (kP 0) ∧ ((.slice none 0 0 : Value) = .slice none 0 0) ∧ (kZ (dI .i64 l)) ∧ (kP n) ∧ (kN (n : Int)) ∧ (kN 0) ∧ (((dI .i64 ([] : List Int)) : List D) = ([] : List D))) zk ⟨rfl, rfl, rfl, rfl, rfl, rfl, rfl, (by first | rfl | with_reducible assumption)⟩ ?_
 rintro ⟨⟨i, o⟩, hinv0⟩
 obtain ⟨hi, hS, ho⟩ : (i ≤ n) ∧ (SI l i o) ∧ (ka1 o = i * 2) := hinv0
 refine qU (l := [(3, oV 1 0 i 2), (4, nV), (11, sV .i64 l n), (12, uV n), (13, uV i)]) (g := [(1, some (84, .ds (dI .i64 o)))]) (nx := 2) rfl rfl rfl ?_
 by_cases hx1 : (((i : Nat) : Int) < ((n : Nat) : Int))
 ·refine kI [.b true] (((i : Int) < (n : Int))) [(3, oV 1 0 i 2), (4, nV), (11, sV .i64 l n), (12, uV n), (13, uV i), (14, bV true)] [(1, some (84, .ds (dI .i64 o)))] 2 zo ?_
  refine AW.seq ?_
  refine vD ?_
  refine AW.seq ?_
  refine AW.block ?_
  refine kI [.n i, .ds [iD (ka0 l (i * 2) 0), iD (ka0 l ((i * 2) + 1) 0)], .no, .no] ((kN (i : Int)) ∧ (i < n) ∧ (ka2 2 (ka7 (i * 2) (dI .i64 l)) = [iD (ka0 l (i * 2) 0), iD (ka0 l ((i * 2) + 1) 0)]) ∧ (([iD (ka0 l (i * 2) 0), iD (ka0 l ((i * 2) + 1) 0)] : List D).length = 2)) [(3, oV 1 0 i 2), (4, nV), (6, rV 2 0), (11, sV .i64 l n), (12, uV n), (13, uV i)] [(1, some (84, .ds (dI .i64 o))), (2, some (84, (eA l i)))] 3 ⟨rfl, zo, (dG .i64 l (i * 2) 2 uF), rfl⟩ ?_
  refine AW.freeze 1 (l' := [(3, sV .i64 o i), (4, nV), (6, rV 2 0), (11, sV .i64 l n), (12, uV n), (13, uV i)]) (g' := [(2, some (84, (eA l i)))]) rfl (FzS.cons rfl (.e (.c (@FzC.own 1 ((dI .i64 o) : List D) 0 i 2 true ((dI .i64 o) : List D) (by rw [kd1, kc4 (by first | omega | (simp only [u2, qM, ka3, kb1, kb5, kb3, kb2, kb6, kc2, kc3, kc7, kc6] <;> omega))]) uF))) (FzS.cons rfl (.same _) (FzS.cons rfl (.same _) (FzS.cons rfl (.same _) (FzS.cons rfl (.same _) (FzS.cons rfl (.same _) FzS.nil)))))) (uP rfl rfl FzG.nil) ?_
  refine kI [.no, .no, .no] True [(3, sV .i64 o i), (4, nV), (6, rV 2 0), (7, uV i), (11, sV .i64 l n), (12, uV n), (13, uV i)] [(2, some (84, (eA l i)))] 3 trivial ?_
  refine AW.seq ?_
  refine AW.block ?_
  refine kX 0 hcx (fun (x : {x : Nat // match x with | k => (k ≤ i) ∧ (∀ j, k ≤ j → j < i → ka0 l (i * 2) 0 < ka0 o (j * 2) 0)}) => match x with | ⟨k, _⟩ => (⟨[(3, sV .i64 o i), (4, nV), (6, rV 2 0), (7, uV k), (11, sV .i64 l n), (12, uV n), (13, uV i)], [(2, some (84, (eA l i)))], 3⟩ : ES)) (fun x => match x with | ⟨k, _⟩ => k) ⟨(i : Nat), ⟨a7, (fun j h8 h9 => by omega)⟩⟩ [] (P := (kZ (dI .i64 o)) ∧ (kP i) ∧ ((.slice none 0 0 : Value) = .slice none 0 0) ∧ (kP 0) ∧ (kN (i : Int)) ∧ (kZ (dI .i64 l)) ∧ (kP n) ∧ (kN (n : Int)) ∧ (kN (i : Int)) ∧ (kZ [iD (ka0 l (i * 2) 0), iD (ka0 l ((i * 2) + 1) 0)])) zk ⟨rfl, rfl, rfl, rfl, rfl, rfl, rfl, rfl, rfl, rfl⟩ ?_
  rintro ⟨k, hinv1⟩
  obtain ⟨hk, hk2⟩ : (k ≤ i) ∧ (∀ j, k ≤ j → j < i → ka0 l (i * 2) 0 < ka0 o (j * 2) 0) := hinv1
  refine qU (l := [(3, sV .i64 o i), (4, nV), (6, rV 2 0), (7, uV k), (11, sV .i64 l n), (12, uV n), (13, uV i)]) (g := [(2, some (84, (eA l i)))]) (nx := 3) rfl rfl rfl ?_
  refine AW.seq ?_
  by_cases hx2 : ((0 : Int) < ((k : Nat) : Int))
  ·by_cases hx3 : ((ka0 l (i * 2) 0) < (ka0 o ((k - 1) * 2) 0))
   ·refine kI [.no, .b true, .no, .no, .no, .w, .n (k - 1), .no, .d (D.lit (.int .i64 (ka0 o ((k - 1) * 2) 0))), .no, .no, .b true, .no] ((((0 : Int) < (k : Int))) ∧ (qJ ((k : Int) - 1)) ∧ ((((k : Int) - 1) : Int) = (((k - 1) : Nat) : Int)) ∧ ((k - 1) < i) ∧ ((ka7 0 (ka7 ((k - 1) * 2) (dI .i64 o)))[0]? = some (D.lit (.int .i64 (ka0 o ((k - 1) * 2) 0)))) ∧ (((ka0 l (i * 2) 0) < (ka0 o ((k - 1) * 2) 0)))) [(3, sV .i64 o i), (4, nV), (6, rV 2 0), (7, uV k), (11, sV .i64 l n), (12, uV n), (13, uV i), (31, bV true)] [(2, some (84, (eA l i)))] 3 ⟨zo, ⟨by omega, by omega⟩, (by first | rfl | omega), zo, (by first | (rw [kf6]; exact qW _ _ _ uF) | (rw [kf6, Nat.add_comm]; exact qW _ _ _ uF)), zo⟩ ?_
    refine vD ?_
    refine AW.block ?_
    refine yD [.no, .w, .no] (qJ ((k : Int) - 1)) [(3, sV .i64 o i), (4, nV), (6, rV 2 0), (7, iV (↑k - 1)), (11, sV .i64 l n), (12, uV n), (13, uV i)] ⟨by omega, by omega⟩ ?_
    exact qE ⟨((k - 1) : Nat), ⟨a7, (k4g hk2 zo zo)⟩⟩ [] (P := (kZ (dI .i64 o)) ∧ (kP i) ∧ ((.slice none 0 0 : Value) = .slice none 0 0) ∧ (kP 0) ∧ (((((k - 1) : Nat) : Int) : Int) = ((k : Int) - 1)) ∧ (kZ (dI .i64 l)) ∧ (kP n) ∧ (kN (n : Int)) ∧ (kN (i : Int)) ∧ (kZ [iD (ka0 l (i * 2) 0), iD (ka0 l ((i * 2) + 1) 0)])) zk ⟨rfl, rfl, rfl, rfl, c4, rfl, rfl, rfl, rfl, rfl⟩ (show (k - 1) < k from fR)
   ·refine kI [.no, .b true, .no, .no, .no, .w, .n (k - 1), .no, .d (D.lit (.int .i64 (ka0 o ((k - 1) * 2) 0))), .no, .no, .b false, .no] ((((0 : Int) < (k : Int))) ∧ (qJ ((k : Int) - 1)) ∧ ((((k : Int) - 1) : Int) = (((k - 1) : Nat) : Int)) ∧ ((k - 1) < i) ∧ ((ka7 0 (ka7 ((k - 1) * 2) (dI .i64 o)))[0]? = some (D.lit (.int .i64 (ka0 o ((k - 1) * 2) 0)))) ∧ (¬ ((ka0 l (i * 2) 0) < (ka0 o ((k - 1) * 2) 0)))) [(3, sV .i64 o i), (4, nV), (6, rV 2 0), (7, uV k), (11, sV .i64 l n), (12, uV n), (13, uV i), (31, bV false)] [(2, some (84, (eA l i)))] 3 ⟨zo, ⟨by omega, by omega⟩, (by first | rfl | omega), zo, (by first | (rw [kf6]; exact qW _ _ _ uF) | (rw [kf6, Nat.add_comm]; exact qW _ _ _ uF)), zo⟩ ?_
    refine zf ?_
    refine AW.exit ?_
    refine v7 [.no, .no, .sls 0 k k (dI .i64 (ka2 (k * 2) o)), .ap none k (dI .i64 (ka2 (k * 2) o)), .no, .no, .ap none (k + 1) (dI .i64 ((ka2 (k * 2) o) ++ ([(ka0 l (i * 2) 0), (ka0 l ((i * 2) + 1) 0)] : List Int))), .no, .no, .sls k i (i - k) (dI .i64 (ka2 ((i - k) * 2) (ka7 (k * 2) o))), .ap none ((k + 1) + (i - k)) (dI .i64 (((ka2 (k * 2) o) ++ ([(ka0 l (i * 2) 0), (ka0 l ((i * 2) + 1) 0)] : List Int)) ++ (ka2 ((i - k) * 2) (ka7 (k * 2) o)))), .no] ((kP 0) ∧ (kN (k : Int)) ∧ ((0 : Nat) ≤ k) ∧ (k ≤ i) ∧ (k - 0 = k) ∧ (ka2 (k * 2) (ka7 (0 * 2) (dI .i64 o)) = (dI .i64 (ka2 (k * 2) o))) ∧ ((dI .i64 (ka2 (k * 2) o)).length = k * 2) ∧ (k * 16 ≤ 140737488355328) ∧ (k = k) ∧ (kZ (dI .i64 (ka2 (k * 2) o))) ∧ ([iD (ka0 l (i * 2) 0), iD (ka0 l ((i * 2) + 1) 0)].length = 1 * 2) ∧ (((dI .i64 (ka2 (k * 2) o)) : List D).length = k * 2) ∧ ((k + 1) * 16 ≤ 140737488355328) ∧ (k + 1 = (k + 1)) ∧ (((dI .i64 (ka2 (k * 2) o)) : List D) ++ [iD (ka0 l (i * 2) 0), iD (ka0 l ((i * 2) + 1) 0)] = (dI .i64 ((ka2 (k * 2) o) ++ ([(ka0 l (i * 2) 0), (ka0 l ((i * 2) + 1) 0)] : List Int)))) ∧ (kN (k : Int)) ∧ (i = i) ∧ (k ≤ i) ∧ (i ≤ i) ∧ (i - k = (i - k)) ∧ (ka2 ((i - k) * 2) (ka7 (k * 2) (dI .i64 o)) = (dI .i64 (ka2 ((i - k) * 2) (ka7 (k * 2) o)))) ∧ ((dI .i64 (ka2 ((i - k) * 2) (ka7 (k * 2) o))).length = (i - k) * 2) ∧ (((dI .i64 ((ka2 (k * 2) o) ++ ([(ka0 l (i * 2) 0), (ka0 l ((i * 2) + 1) 0)] : List Int))) : List D).length = (k + 1) * 2) ∧ (((k + 1) + (i - k)) * 16 ≤ 140737488355328) ∧ ((k + 1) + (i - k) = ((k + 1) + (i - k))) ∧ (((dI .i64 ((ka2 (k * 2) o) ++ ([(ka0 l (i * 2) 0), (ka0 l ((i * 2) + 1) 0)] : List Int))) : List D) ++ (dI .i64 (ka2 ((i - k) * 2) (ka7 (k * 2) o))) = (dI .i64 (((ka2 (k * 2) o) ++ ([(ka0 l (i * 2) 0), (ka0 l ((i * 2) + 1) 0)] : List Int)) ++ (ka2 ((i - k) * 2) (ka7 (k * 2) o)))))) [(3, oV 6 0 ((k + 1) + (i - k)) 2), (4, nV), (11, sV .i64 l n), (12, uV n), (13, uV i)] [(6, some (84, .ds (dI .i64 (((ka2 (k * 2) o) ++ ([(ka0 l (i * 2) 0), (ka0 l ((i * 2) + 1) 0)] : List Int)) ++ (ka2 ((i - k) * 2) (ka7 (k * 2) o))))))] 7 ⟨rfl, rfl, zo, zo, zo, oS, uF, zo, rfl, rfl, uF, uF, zo, zo, (qT .i64 (ka2 (k * 2) o) ([(ka0 l (i * 2) 0), (ka0 l ((i * 2) + 1) 0)] : List Int)), rfl, rfl, zo, zo, zo, oS, uF, uF, zo, zo, (qT .i64 ((ka2 (k * 2) o) ++ ([(ka0 l (i * 2) 0), (ka0 l ((i * 2) + 1) 0)] : List Int)) (ka2 ((i - k) * 2) (ka7 (k * 2) o)))⟩ ?_
    refine yD [.w, .no] (qJ ((i : Int) + 1)) [(3, oV 6 0 ((k + 1) + (i - k)) 2), (4, nV), (11, sV .i64 l n), (12, uV n), (13, iV (↑i + 1))] ⟨by omega, by omega⟩ ?_
    exact qE ⟨(((i + 1) : Nat), ((((ka2 (k * 2) o) ++ ([(ka0 l (i * 2) 0), (ka0 l ((i * 2) + 1) 0)] : List Int)) ++ (ka2 ((i - k) * 2) (ka7 (k * 2) o))) : List Int)), ⟨a7, (hS.step hl zo rfl rfl zo (fun j h8 h9 => hk2 j h8 zo) zo (by first | rfl | (congr 1; exact (kc4 (by rw [kb2]; omega))))), (by simp only [u2, ka3, kb1, kb5, kb3, kb2] <;> omega)⟩⟩ [(1, 6)] (P := (kP 0) ∧ (((i + 1) : Nat) = ((k + 1) + (i - k))) ∧ ((.slice none 0 0 : Value) = .slice none 0 0) ∧ (kZ (dI .i64 l)) ∧ (kP n) ∧ (kN (n : Int)) ∧ (((((i + 1) : Nat) : Int) : Int) = ((i : Int) + 1)) ∧ (kZ (dI .i64 (((ka2 (k * 2) o) ++ ([(ka0 l (i * 2) 0), (ka0 l ((i * 2) + 1) 0)] : List Int)) ++ (ka2 ((i - k) * 2) (ka7 (k * 2) o)))))) zk ⟨rfl, c4, rfl, rfl, rfl, rfl, c4, rfl⟩ (show n - (i + 1) < n - i from fR)
  ·refine kI [.no, .b false, .no, .no] (¬ ((0 : Int) < (k : Int))) [(3, sV .i64 o i), (4, nV), (6, rV 2 0), (7, uV k), (11, sV .i64 l n), (12, uV n), (13, uV i), (31, bV false)] [(2, some (84, (eA l i)))] 3 zo ?_
   refine zf ?_
   refine AW.exit ?_
   refine v7 [.no, .no, .sls 0 k k (dI .i64 (ka2 (k * 2) o)), .ap none k (dI .i64 (ka2 (k * 2) o)), .no, .no, .ap none (k + 1) (dI .i64 ((ka2 (k * 2) o) ++ ([(ka0 l (i * 2) 0), (ka0 l ((i * 2) + 1) 0)] : List Int))), .no, .no, .sls k i (i - k) (dI .i64 (ka2 ((i - k) * 2) (ka7 (k * 2) o))), .ap none ((k + 1) + (i - k)) (dI .i64 (((ka2 (k * 2) o) ++ ([(ka0 l (i * 2) 0), (ka0 l ((i * 2) + 1) 0)] : List Int)) ++ (ka2 ((i - k) * 2) (ka7 (k * 2) o)))), .no] ((kP 0) ∧ (kN (k : Int)) ∧ ((0 : Nat) ≤ k) ∧ (k ≤ i) ∧ (k - 0 = k) ∧ (ka2 (k * 2) (ka7 (0 * 2) (dI .i64 o)) = (dI .i64 (ka2 (k * 2) o))) ∧ ((dI .i64 (ka2 (k * 2) o)).length = k * 2) ∧ (k * 16 ≤ 140737488355328) ∧ (k = k) ∧ (kZ (dI .i64 (ka2 (k * 2) o))) ∧ ([iD (ka0 l (i * 2) 0), iD (ka0 l ((i * 2) + 1) 0)].length = 1 * 2) ∧ (((dI .i64 (ka2 (k * 2) o)) : List D).length = k * 2) ∧ ((k + 1) * 16 ≤ 140737488355328) ∧ (k + 1 = (k + 1)) ∧ (((dI .i64 (ka2 (k * 2) o)) : List D) ++ [iD (ka0 l (i * 2) 0), iD (ka0 l ((i * 2) + 1) 0)] = (dI .i64 ((ka2 (k * 2) o) ++ ([(ka0 l (i * 2) 0), (ka0 l ((i * 2) + 1) 0)] : List Int)))) ∧ (kN (k : Int)) ∧ (i = i) ∧ (k ≤ i) ∧ (i ≤ i) ∧ (i - k = (i - k)) ∧ (ka2 ((i - k) * 2) (ka7 (k * 2) (dI .i64 o)) = (dI .i64 (ka2 ((i - k) * 2) (ka7 (k * 2) o)))) ∧ ((dI .i64 (ka2 ((i - k) * 2) (ka7 (k * 2) o))).length = (i - k) * 2) ∧ (((dI .i64 ((ka2 (k * 2) o) ++ ([(ka0 l (i * 2) 0), (ka0 l ((i * 2) + 1) 0)] : List Int))) : List D).length = (k + 1) * 2) ∧ (((k + 1) + (i - k)) * 16 ≤ 140737488355328) ∧ ((k + 1) + (i - k) = ((k + 1) + (i - k))) ∧ (((dI .i64 ((ka2 (k * 2) o) ++ ([(ka0 l (i * 2) 0), (ka0 l ((i * 2) + 1) 0)] : List Int))) : List D) ++ (dI .i64 (ka2 ((i - k) * 2) (ka7 (k * 2) o))) = (dI .i64 (((ka2 (k * 2) o) ++ ([(ka0 l (i * 2) 0), (ka0 l ((i * 2) + 1) 0)] : List Int)) ++ (ka2 ((i - k) * 2) (ka7 (k * 2) o)))))) [(3, oV 6 0 ((k + 1) + (i - k)) 2), (4, nV), (11, sV .i64 l n), (12, uV n), (13, uV i)] [(6, some (84, .ds (dI .i64 (((ka2 (k * 2) o) ++ ([(ka0 l (i * 2) 0), (ka0 l ((i * 2) + 1) 0)] : List Int)) ++ (ka2 ((i - k) * 2) (ka7 (k * 2) o))))))] 7 ⟨rfl, rfl, zo, zo, zo, oS, uF, zo, rfl, rfl, uF, uF, zo, zo, (qT .i64 (ka2 (k * 2) o) ([(ka0 l (i * 2) 0), (ka0 l ((i * 2) + 1) 0)] : List Int)), rfl, rfl, zo, zo, zo, oS, uF, uF, zo, zo, (qT .i64 ((ka2 (k * 2) o) ++ ([(ka0 l (i * 2) 0), (ka0 l ((i * 2) + 1) 0)] : List Int)) (ka2 ((i - k) * 2) (ka7 (k * 2) o)))⟩ ?_
   refine yD [.w, .no] (qJ ((i : Int) + 1)) [(3, oV 6 0 ((k + 1) + (i - k)) 2), (4, nV), (11, sV .i64 l n), (12, uV n), (13, iV (↑i + 1))] ⟨by omega, by omega⟩ ?_
   exact qE ⟨(((i + 1) : Nat), ((((ka2 (k * 2) o) ++ ([(ka0 l (i * 2) 0), (ka0 l ((i * 2) + 1) 0)] : List Int)) ++ (ka2 ((i - k) * 2) (ka7 (k * 2) o))) : List Int)), ⟨a7, (hS.step hl zo rfl rfl zo (fun j h8 h9 => hk2 j h8 zo) zo (by first | rfl | (congr 1; exact (kc4 (by rw [kb2]; omega))))), (by simp only [u2, ka3, kb1, kb5, kb3, kb2] <;> omega)⟩⟩ [(1, 6)] (P := (kP 0) ∧ (((i + 1) : Nat) = ((k + 1) + (i - k))) ∧ ((.slice none 0 0 : Value) = .slice none 0 0) ∧ (kZ (dI .i64 l)) ∧ (kP n) ∧ (kN (n : Int)) ∧ (((((i + 1) : Nat) : Int) : Int) = ((i : Int) + 1)) ∧ (kZ (dI .i64 (((ka2 (k * 2) o) ++ ([(ka0 l (i * 2) 0), (ka0 l ((i * 2) + 1) 0)] : List Int)) ++ (ka2 ((i - k) * 2) (ka7 (k * 2) o)))))) zk ⟨rfl, c4, rfl, rfl, rfl, rfl, c4, rfl⟩ (show n - (i + 1) < n - i from fR)
 ·refine kI [.b false] (¬ ((i : Int) < (n : Int))) [(3, oV 1 0 i 2), (4, nV), (11, sV .i64 l n), (12, uV n), (13, uV i), (14, bV false)] [(1, some (84, .ds (dI .i64 o)))] 2 zo ?_
  refine AW.seq ?_
  refine zf ?_
  refine AW.exit ?_
  refine AW.seq ?_
  obtain rfl : n = i := (by omega)
  have hRo : RG o n := hS.rg hl (by omega) hR
  refine kI [.no, .no, .no] True [(4, nV), (46, oV 1 0 n 2), (47, uV n), (48, iV 0)] [(1, some (84, .ds (dI .i64 o)))] 2 trivial ?_
  refine AW.block ?_
  refine AW.adoptS 4 2 84 rfl ?_
  refine kX 0 hcx (fun (x : {x : Nat × Nat × List Int // match x with | (i2, k2, u) => (i2 ≤ n ∧ k2 ≤ i2) ∧ (MG o i2 k2 u) ∧ (ka1 u = k2 * 2)}) => match x with | ⟨(i2, k2, u), _⟩ => (⟨[(4, oV 3 0 k2 2), (46, oV 1 0 n 2), (47, uV n), (48, uV i2)], [(1, some (84, .ds (dI .i64 o))), (3, some (84, .ds (dI .i64 u)))], 4⟩ : ES)) (fun x => match x with | ⟨(i2, k2, u), _⟩ => n - i2) ⟨((0 : Nat), (0 : Nat), (([] : List Int) : List Int)), ⟨a7, (MG.zero _), rfl⟩⟩ [(3, 2)] (P := (kP 0) ∧ (kP 0) ∧ (kP 0) ∧ (kP n) ∧ (kN (n : Int)) ∧ (kN 0) ∧ (kZ (dI .i64 o)) ∧ (((dI .i64 ([] : List Int)) : List D) = ([] : List D))) zk ⟨rfl, rfl, rfl, rfl, rfl, rfl, rfl, (by first | rfl | with_reducible assumption)⟩ ?_
  rintro ⟨⟨i2, k2, u⟩, hinv2⟩
  obtain ⟨hi2, hM, hu⟩ : (i2 ≤ n ∧ k2 ≤ i2) ∧ (MG o i2 k2 u) ∧ (ka1 u = k2 * 2) := hinv2
  refine qU (l := [(4, oV 3 0 k2 2), (46, oV 1 0 n 2), (47, uV n), (48, uV i2)]) (g := [(1, some (84, .ds (dI .i64 o))), (3, some (84, .ds (dI .i64 u)))]) (nx := 4) rfl rfl rfl ?_
  by_cases hx4 : (((i2 : Nat) : Int) < ((n : Nat) : Int))
  ·refine kI [.b true] (((i2 : Int) < (n : Int))) [(4, oV 3 0 k2 2), (46, oV 1 0 n 2), (47, uV n), (48, uV i2), (49, bV true)] [(1, some (84, .ds (dI .i64 o))), (3, some (84, .ds (dI .i64 u)))] 4 zo ?_
   refine AW.seq ?_
   refine vD ?_
   refine AW.seq ?_
   refine AW.block ?_
   refine kI [.n2 i2 (i2 * 2), .ds [iD (ka0 o (i2 * 2) 0), iD (ka0 o ((i2 * 2) + 1) 0)], .no, .no] ((kN (i2 : Int)) ∧ (i2 < n) ∧ ((0 : Nat) + i2 * 2 = (i2 * 2)) ∧ (ka2 2 (ka7 (i2 * 2) (dI .i64 o)) = [iD (ka0 o (i2 * 2) 0), iD (ka0 o ((i2 * 2) + 1) 0)]) ∧ (([iD (ka0 o (i2 * 2) 0), iD (ka0 o ((i2 * 2) + 1) 0)] : List D).length = 2)) [(4, oV 3 0 k2 2), (9, rV 4 0), (46, oV 1 0 n 2), (47, uV n), (48, uV i2)] [(1, some (84, .ds (dI .i64 o))), (3, some (84, .ds (dI .i64 u))), (4, some (84, .ds [iD (ka0 o (i2 * 2) 0), iD (ka0 o ((i2 * 2) + 1) 0)]))] 5 ⟨rfl, zo, zo, (dG .i64 o (i2 * 2) 2 uF), rfl⟩ ?_
   refine k8 [.no, .no, .w, .no] (qJ ((k2 : Int) - 1)) [(4, oV 3 0 k2 2), (9, rV 4 0), (10, iV (↑k2 - 1)), (46, oV 1 0 n 2), (47, uV n), (48, uV i2)] ⟨by omega, by omega⟩ ?_
   by_cases hx6 : ((0 : Int) ≤ (((k2 : Nat) : Int) - 1))
   ·by_cases hx9 : (((ka0 o (i2 * 2) 0) - 1) ≤ (ka0 u (((k2 - 1) * 2) + 1) 0))
    ·have hx10 : 0 ≤ ka0 o (i2 * 2) 0 ∧ ka0 o (i2 * 2) 0 ≤ ka0 o (i2 * 2 + 1) 0 ∧ ka0 o (i2 * 2 + 1) 0 ≤ 2147483647 := hRo i2 zo
     have hx11 : 0 ≤ ka0 u ((k2 - 1) * 2 + 1) 0 ∧ ka0 u ((k2 - 1) * 2 + 1) 0 ≤ 2147483647 := hM.hi ho hRo zo
     refine k8 [.no, .b true, .no, .no, .no, .w, .no, .no, .n2 (k2 - 1) ((k2 - 1) * 2), .no, .d (D.lit (.int .i64 (ka0 u (((k2 - 1) * 2) + 1) 0))), .b true, .no] ((((0 : Int) ≤ ((k2 : Int) - 1))) ∧ (qJ ((ka0 o (i2 * 2) 0) - 1)) ∧ ((((k2 : Int) - 1) : Int) = (((k2 - 1) : Nat) : Int)) ∧ ((k2 - 1) < k2) ∧ ((0 : Nat) + (k2 - 1) * 2 = ((k2 - 1) * 2)) ∧ ((dI .i64 u)[(((k2 - 1) * 2) + 1)]? = some (D.lit (.int .i64 (ka0 u (((k2 - 1) * 2) + 1) 0)))) ∧ ((((ka0 o (i2 * 2) 0) - 1) ≤ (ka0 u (((k2 - 1) * 2) + 1) 0)))) [(4, oV 3 0 k2 2), (9, rV 4 0), (10, iV (↑k2 - 1)), (46, oV 1 0 n 2), (47, uV n), (48, uV i2), (67, bV true)] ⟨zo, ⟨by omega, by omega⟩, (by first | rfl | omega), zo, zo, (dH _ _ _ uF), zo⟩ ?_
     refine zt ?_
     refine v7 (kJ 4 [.n2 (k2 - 1) ((k2 - 1) * 2), .no, .d (D.lit (.int .i64 (ka0 u (((k2 - 1) * 2) + 1) 0))), .no, .no, .no, .n2 (k2 - 1) ((k2 - 1) * 2), .no, .ds (dI .i64 (kj3 u (((k2 - 1) * 2) + 1) (max (ka0 u (((k2 - 1) * 2) + 1) 0) (ka0 o ((i2 * 2) + 1) 0))))]) (((((k2 : Int) - 1) : Int) = (((k2 - 1) : Nat) : Int)) ∧ ((k2 - 1) < k2) ∧ ((0 : Nat) + (k2 - 1) * 2 = ((k2 - 1) * 2)) ∧ ((dI .i64 u)[(((k2 - 1) * 2) + 1)]? = some (D.lit (.int .i64 (ka0 u (((k2 - 1) * 2) + 1) 0)))) ∧ ((((k2 : Int) - 1) : Int) = (((k2 - 1) : Nat) : Int)) ∧ ((k2 - 1) < k2) ∧ ((0 : Nat) + (k2 - 1) * 2 = ((k2 - 1) * 2)) ∧ ((((k2 - 1) * 2) + 1) + 1 ≤ (dI .i64 u).length) ∧ (k15 (dI .i64 u) (((k2 - 1) * 2) + 1) [D.lit (.int .i64 (max (ka0 u (((k2 - 1) * 2) + 1) 0) (ka0 o ((i2 * 2) + 1) 0)))] = dI .i64 (kj3 u (((k2 - 1) * 2) + 1) (max (ka0 u (((k2 - 1) * 2) + 1) 0) (ka0 o ((i2 * 2) + 1) 0))))) [(4, oV 3 0 k2 2), (46, oV 1 0 n 2), (47, uV n), (48, uV i2)] [(1, some (84, .ds (dI .i64 o))), (3, some (84, .ds (dI .i64 (kj3 u (((k2 - 1) * 2) + 1) (max (ka0 u (((k2 - 1) * 2) + 1) 0) (ka0 o ((i2 * 2) + 1) 0))))))] 5 ⟨(by first | rfl | omega), zo, zo, (dH _ _ _ uF), (by first | rfl | omega), zo, zo, uF, (u30 _ _ _ _)⟩ ?_
     refine yD [.w, .no] (qJ ((i2 : Int) + 1)) [(4, oV 3 0 k2 2), (46, oV 1 0 n 2), (47, uV n), (48, iV (↑i2 + 1))] ⟨by omega, by omega⟩ ?_
     exact qE ⟨(((i2 + 1) : Nat), (k2 : Nat), ((kj3 u (((k2 - 1) * 2) + 1) (max (ka0 u (((k2 - 1) * 2) + 1) 0) (ka0 o ((i2 * 2) + 1) 0))) : List Int)), ⟨a7, (by first | exact hM.new ho zo rfl rfl zo rfl | exact hM.join ho zo rfl rfl zo zo rfl rfl), wY⟩⟩ [] (P := (kP 0) ∧ (kP k2) ∧ (kP 0) ∧ (kP n) ∧ (kN (n : Int)) ∧ (((((i2 + 1) : Nat) : Int) : Int) = ((i2 : Int) + 1)) ∧ (kZ (dI .i64 o)) ∧ (kZ (dI .i64 (kj3 u (((k2 - 1) * 2) + 1) (max (ka0 u (((k2 - 1) * 2) + 1) 0) (ka0 o ((i2 * 2) + 1) 0)))))) zk ⟨rfl, rfl, rfl, rfl, rfl, c4, rfl, rfl⟩ (show n - (i2 + 1) < n - i2 from fR)
    ·have hx12 : 0 ≤ ka0 o (i2 * 2) 0 ∧ ka0 o (i2 * 2) 0 ≤ ka0 o (i2 * 2 + 1) 0 ∧ ka0 o (i2 * 2 + 1) 0 ≤ 2147483647 := hRo i2 zo
     have hx13 : 0 ≤ ka0 u ((k2 - 1) * 2 + 1) 0 ∧ ka0 u ((k2 - 1) * 2 + 1) 0 ≤ 2147483647 := hM.hi ho hRo zo
     refine k8 [.no, .b true, .no, .no, .no, .w, .no, .no, .n2 (k2 - 1) ((k2 - 1) * 2), .no, .d (D.lit (.int .i64 (ka0 u (((k2 - 1) * 2) + 1) 0))), .b false, .no] ((((0 : Int) ≤ ((k2 : Int) - 1))) ∧ (qJ ((ka0 o (i2 * 2) 0) - 1)) ∧ ((((k2 : Int) - 1) : Int) = (((k2 - 1) : Nat) : Int)) ∧ ((k2 - 1) < k2) ∧ ((0 : Nat) + (k2 - 1) * 2 = ((k2 - 1) * 2)) ∧ ((dI .i64 u)[(((k2 - 1) * 2) + 1)]? = some (D.lit (.int .i64 (ka0 u (((k2 - 1) * 2) + 1) 0)))) ∧ (¬ (((ka0 o (i2 * 2) 0) - 1) ≤ (ka0 u (((k2 - 1) * 2) + 1) 0)))) [(4, oV 3 0 k2 2), (9, rV 4 0), (10, iV (↑k2 - 1)), (46, oV 1 0 n 2), (47, uV n), (48, uV i2), (67, bV false)] ⟨zo, ⟨by omega, by omega⟩, (by first | rfl | omega), zo, zo, (dH _ _ _ uF), zo⟩ ?_
     refine zf ?_
     refine v7 [.no, .no, .no, .ap none (k2 + 1) (dI .i64 (u ++ ([(ka0 o (i2 * 2) 0), (ka0 o ((i2 * 2) + 1) 0)] : List Int))), .no] (([iD (ka0 o (i2 * 2) 0), iD (ka0 o ((i2 * 2) + 1) 0)].length = 1 * 2) ∧ (((dI .i64 u) : List D).length = k2 * 2) ∧ ((k2 + 1) * 16 ≤ 140737488355328) ∧ (k2 + 1 = (k2 + 1)) ∧ (((dI .i64 u) : List D) ++ [iD (ka0 o (i2 * 2) 0), iD (ka0 o ((i2 * 2) + 1) 0)] = (dI .i64 (u ++ ([(ka0 o (i2 * 2) 0), (ka0 o ((i2 * 2) + 1) 0)] : List Int))))) [(4, oV 6 0 (k2 + 1) 2), (46, oV 1 0 n 2), (47, uV n), (48, uV i2)] [(1, some (84, .ds (dI .i64 o))), (6, some (84, .ds (dI .i64 (u ++ ([(ka0 o (i2 * 2) 0), (ka0 o ((i2 * 2) + 1) 0)] : List Int)))))] 7 ⟨uF, uF, zo, zo, (qT .i64 u ([(ka0 o (i2 * 2) 0), (ka0 o ((i2 * 2) + 1) 0)] : List Int))⟩ ?_
     refine yD [.w, .no] (qJ ((i2 : Int) + 1)) [(4, oV 6 0 (k2 + 1) 2), (46, oV 1 0 n 2), (47, uV n), (48, iV (↑i2 + 1))] ⟨by omega, by omega⟩ ?_
     exact qE ⟨(((i2 + 1) : Nat), ((k2 + 1) : Nat), ((u ++ ([(ka0 o (i2 * 2) 0), (ka0 o ((i2 * 2) + 1) 0)] : List Int)) : List Int)), ⟨a7, (by first | exact hM.new ho zo rfl rfl zo rfl | exact hM.join ho zo rfl rfl zo zo rfl rfl), wY⟩⟩ [(3, 6)] (P := (kP 0) ∧ (kP (k2 + 1)) ∧ (kP 0) ∧ (kP n) ∧ (kN (n : Int)) ∧ (((((i2 + 1) : Nat) : Int) : Int) = ((i2 : Int) + 1)) ∧ (kZ (dI .i64 o)) ∧ (kZ (dI .i64 (u ++ ([(ka0 o (i2 * 2) 0), (ka0 o ((i2 * 2) + 1) 0)] : List Int))))) zk ⟨rfl, rfl, rfl, rfl, rfl, c4, rfl, rfl⟩ (show n - (i2 + 1) < n - i2 from fR)
   ·have hx14 : 0 ≤ ka0 o (i2 * 2) 0 ∧ ka0 o (i2 * 2) 0 ≤ ka0 o (i2 * 2 + 1) 0 ∧ ka0 o (i2 * 2 + 1) 0 ≤ 2147483647 := hRo i2 zo
    refine k8 [.no, .b false, .no, .no] (¬ ((0 : Int) ≤ ((k2 : Int) - 1))) [(4, oV 3 0 k2 2), (9, rV 4 0), (10, iV (↑k2 - 1)), (46, oV 1 0 n 2), (47, uV n), (48, uV i2), (67, bV false)] zo ?_
    refine zf ?_
    refine v7 [.no, .no, .no, .ap none (k2 + 1) (dI .i64 (u ++ ([(ka0 o (i2 * 2) 0), (ka0 o ((i2 * 2) + 1) 0)] : List Int))), .no] (([iD (ka0 o (i2 * 2) 0), iD (ka0 o ((i2 * 2) + 1) 0)].length = 1 * 2) ∧ (((dI .i64 u) : List D).length = k2 * 2) ∧ ((k2 + 1) * 16 ≤ 140737488355328) ∧ (k2 + 1 = (k2 + 1)) ∧ (((dI .i64 u) : List D) ++ [iD (ka0 o (i2 * 2) 0), iD (ka0 o ((i2 * 2) + 1) 0)] = (dI .i64 (u ++ ([(ka0 o (i2 * 2) 0), (ka0 o ((i2 * 2) + 1) 0)] : List Int))))) [(4, oV 6 0 (k2 + 1) 2), (46, oV 1 0 n 2), (47, uV n), (48, uV i2)] [(1, some (84, .ds (dI .i64 o))), (6, some (84, .ds (dI .i64 (u ++ ([(ka0 o (i2 * 2) 0), (ka0 o ((i2 * 2) + 1) 0)] : List Int)))))] 7 ⟨uF, uF, zo, zo, (qT .i64 u ([(ka0 o (i2 * 2) 0), (ka0 o ((i2 * 2) + 1) 0)] : List Int))⟩ ?_
    refine yD [.w, .no] (qJ ((i2 : Int) + 1)) [(4, oV 6 0 (k2 + 1) 2), (46, oV 1 0 n 2), (47, uV n), (48, iV (↑i2 + 1))] ⟨by omega, by omega⟩ ?_
    exact qE ⟨(((i2 + 1) : Nat), ((k2 + 1) : Nat), ((u ++ ([(ka0 o (i2 * 2) 0), (ka0 o ((i2 * 2) + 1) 0)] : List Int)) : List Int)), ⟨a7, (by first | exact hM.new ho zo rfl rfl zo rfl | exact hM.join ho zo rfl rfl zo zo rfl rfl), wY⟩⟩ [(3, 6)] (P := (kP 0) ∧ (kP (k2 + 1)) ∧ (kP 0) ∧ (kP n) ∧ (kN (n : Int)) ∧ (((((i2 + 1) : Nat) : Int) : Int) = ((i2 : Int) + 1)) ∧ (kZ (dI .i64 o)) ∧ (kZ (dI .i64 (u ++ ([(ka0 o (i2 * 2) 0), (ka0 o ((i2 * 2) + 1) 0)] : List Int))))) zk ⟨rfl, rfl, rfl, rfl, rfl, c4, rfl, rfl⟩ (show n - (i2 + 1) < n - i2 from fR)
  ·refine kI [.b false] (¬ ((i2 : Int) < (n : Int))) [(4, oV 3 0 k2 2), (46, oV 1 0 n 2), (47, uV n), (48, uV i2), (49, bV false)] [(1, some (84, .ds (dI .i64 o))), (3, some (84, .ds (dI .i64 u)))] 4 zo ?_
   refine AW.seq ?_
   refine zf ?_
   refine AW.exit ?_
   refine kI [.no, .no] True [(2, oV 3 0 k2 2)] [(3, some (84, .ds (dI .i64 u)))] 4 trivial ?_
   obtain ⟨hz1, hz2⟩ := u27 hl hR ho (hS.all hl zo) hS.sr (by have h9 := hM; rw [show i2 = n by omega] at h9; exact h9)
   refine AW.freeze 3 (l' := [(2, sV .i64 u k2)]) (g' := []) rfl (FzS.cons rfl (.e (.c (@FzC.own 3 ((dI .i64 u) : List D) 0 k2 2 true ((dI .i64 u) : List D) (by rw [kd1, kc4 (by first | omega | (simp only [u2, qM, ka3, kb1, kb5, kb3, kb2, kb6, kc2, kc3, kc7, kc6] <;> omega))]) uF))) FzS.nil) FzG.nil ?_
   refine AW.ret ?_
   exact kC (.inr rfl) [] (P := (((dI .i64 (sU l)) : List D) = (dI .i64 u)) ∧ (((l9 l) : Nat) = k2)) zk ⟨(by first | rfl | exact congrArg _ hz1.symm), a9⟩
theorem k10 (l : List Int) (n : Nat) (hl : ka1 l = n * 2) (hb : n ≤ 1000000) : Fun 84 [.c (.d (D.sl (dI .i64 l) n))] (kF []) 0 (.tup [.agg [.d (D.sl (dI .i64 (dR l n)) (vC l n))], iE (nB l n)]) (kF []) 0 := by
 refine Fun.mk (n := 39) Try.func84 rfl rfl (ka4 rfl) ?_
 intro cx hcx
 refine kI [.no, .no] True [(0, sV .i64 l n), (2, rV 0 0)] [(0, some (44, .ds [qF]))] 1 trivial ?_
 refine AW.seq ?_
 refine k8 [.no, .no, .no] True [(0, sV .i64 l n), (2, rV 0 0), (7, sV .i64 l n), (8, uV n), (9, iV 0)] trivial ?_
 refine AW.block ?_
 refine kX 0 hcx (fun (x : {x : Nat // match x with | k => (k ≤ n) ∧ (∀ j, j < k → rgE l j = true)}) => match x with | ⟨k, _⟩ => (⟨[(0, sV .i64 l n), (2, rV 0 0), (7, sV .i64 l n), (8, uV n), (9, uV k)], [(0, some (44, .ds [qF]))], 1⟩ : ES)) (fun x => match x with | ⟨k, _⟩ => n - k) ⟨(0 : Nat), ⟨a7, (fun j hj => absurd hj (Nat.not_lt_zero j))⟩⟩ [] (P := (kZ (dI .i64 l)) ∧ (kP n) ∧ (kP 0) ∧ (kZ (dI .i64 l)) ∧ (kP n) ∧ (kN (n : Int)) ∧ (kN 0) ∧ (kZ [qF])) zk ⟨rfl, rfl, rfl, rfl, rfl, rfl, rfl, rfl⟩ ?_
 rintro ⟨k, hinv0⟩
 obtain ⟨hk, ha⟩ : (k ≤ n) ∧ (∀ j, j < k → rgE l j = true) := hinv0
 refine qU (l := [(0, sV .i64 l n), (2, rV 0 0), (7, sV .i64 l n), (8, uV n), (9, uV k)]) (g := [(0, some (44, .ds [qF]))]) (nx := 1) rfl rfl rfl ?_
 by_cases hx1 : (((k : Nat) : Int) < ((n : Nat) : Int))
 ·refine kI [.b true] (((k : Int) < (n : Int))) [(0, sV .i64 l n), (2, rV 0 0), (7, sV .i64 l n), (8, uV n), (9, uV k), (10, bV true)] [(0, some (44, .ds [qF]))] 1 zo ?_
  refine AW.seq ?_
  refine vD ?_
  refine AW.seq ?_
  refine AW.block ?_
  refine kI [.n k, .ds [iD (ka0 l (k * 2) 0), iD (ka0 l ((k * 2) + 1) 0)], .no, .no] ((kN (k : Int)) ∧ (k < n) ∧ (ka2 2 (ka7 (k * 2) (dI .i64 l)) = [iD (ka0 l (k * 2) 0), iD (ka0 l ((k * 2) + 1) 0)]) ∧ (([iD (ka0 l (k * 2) 0), iD (ka0 l ((k * 2) + 1) 0)] : List D).length = 2)) [(0, sV .i64 l n), (2, rV 0 0), (5, rV 1 0), (7, sV .i64 l n), (8, uV n), (9, uV k)] [(0, some (44, .ds [qF])), (1, some (84, .ds [iD (ka0 l (k * 2) 0), iD (ka0 l ((k * 2) + 1) 0)]))] 2 ⟨rfl, zo, (dG .i64 l (k * 2) 2 uF), rfl⟩ ?_
  by_cases hx2 : ((ka0 l (k * 2) 0) < 0)
  ·refine kI (.no :: .no :: .b true :: kJ 4 []) (((ka0 l (k * 2) 0) < 0)) [(0, sV .i64 l n), (2, rV 0 0), (7, sV .i64 l n), (8, uV n), (9, uV k), (27, bV true)] [(0, some (44, .ds [qF]))] 2 zo ?_
   refine zt ?_
   refine k8 [.no, .no, .no] True [(2, rV 0 0), (3, iV 2)] trivial ?_
   obtain ⟨hz1, hz2, hz3⟩ := xN (l := l) (n := n) (u1g (k := k) zo (decide_eq_false zo))
   refine aH (l' := [(2, rV 0 0), (3, iV 2)]) (g' := [(0, some (44, .ds [D.sl ([] : List D) 0]))]) (NlS.cons rfl (.same _) (NlS.cons rfl (.same _) NlS.nil)) (NlG.to (bc := .ds [qF]) rfl (NlL.cons (.nil) NlL.nil) NlG.nil) ?_
   refine AW.ret ?_
   exact kC (.inr rfl) [] (P := (((dI .i64 (dR l n)) : List D) = ([] : List D)) ∧ (((vC l n) : Nat) = 0) ∧ (((nB l n) : Int) = 2)) zk ⟨(by first | (rw [hz2]; done) | (rw [hz2]; rfl) | (rw [hz2, hz0]; done) | (rw [hz2, hz0]; rfl)), a9, a9⟩
  ·by_cases hx3 : ((ka0 l ((k * 2) + 1) 0) < (ka0 l (k * 2) 0))
   ·refine kI (.no :: .no :: .b false :: kJ 5 [.b true, .no, .no, .no]) ((¬ ((ka0 l (k * 2) 0) < 0)) ∧ (((ka0 l ((k * 2) + 1) 0) < (ka0 l (k * 2) 0)))) [(0, sV .i64 l n), (2, rV 0 0), (7, sV .i64 l n), (8, uV n), (9, uV k), (27, bV true)] [(0, some (44, .ds [qF]))] 2 ⟨zo, zo⟩ ?_
    refine zt ?_
    refine k8 [.no, .no, .no] True [(2, rV 0 0), (3, iV 2)] trivial ?_
    obtain ⟨hz1, hz2, hz3⟩ := xN (l := l) (n := n) (u1g (k := k) zo (decide_eq_false zo))
    refine aH (l' := [(2, rV 0 0), (3, iV 2)]) (g' := [(0, some (44, .ds [D.sl ([] : List D) 0]))]) (NlS.cons rfl (.same _) (NlS.cons rfl (.same _) NlS.nil)) (NlG.to (bc := .ds [qF]) rfl (NlL.cons (.nil) NlL.nil) NlG.nil) ?_
    refine AW.ret ?_
    exact kC (.inr rfl) [] (P := (((dI .i64 (dR l n)) : List D) = ([] : List D)) ∧ (((vC l n) : Nat) = 0) ∧ (((nB l n) : Int) = 2)) zk ⟨(by first | (rw [hz2]; done) | (rw [hz2]; rfl) | (rw [hz2, hz0]; done) | (rw [hz2, hz0]; rfl)), a9, a9⟩
   ·by_cases hx4 : ((2147483647 : Int) < (ka0 l ((k * 2) + 1) 0))
    ·refine kI (.no :: .no :: .b false :: kJ 5 (.b false :: kJ 4 [.b true, .no])) ((¬ ((ka0 l (k * 2) 0) < 0)) ∧ (¬ ((ka0 l ((k * 2) + 1) 0) < (ka0 l (k * 2) 0))) ∧ (((2147483647 : Int) < (ka0 l ((k * 2) + 1) 0)))) [(0, sV .i64 l n), (2, rV 0 0), (7, sV .i64 l n), (8, uV n), (9, uV k), (27, bV true)] [(0, some (44, .ds [qF]))] 2 ⟨zo, zo, zo⟩ ?_
     refine zt ?_
     refine k8 [.no, .no, .no] True [(2, rV 0 0), (3, iV 2)] trivial ?_
     obtain ⟨hz1, hz2, hz3⟩ := xN (l := l) (n := n) (u1g (k := k) zo (decide_eq_false zo))
     refine aH (l' := [(2, rV 0 0), (3, iV 2)]) (g' := [(0, some (44, .ds [D.sl ([] : List D) 0]))]) (NlS.cons rfl (.same _) (NlS.cons rfl (.same _) NlS.nil)) (NlG.to (bc := .ds [qF]) rfl (NlL.cons (.nil) NlL.nil) NlG.nil) ?_
     refine AW.ret ?_
     exact kC (.inr rfl) [] (P := (((dI .i64 (dR l n)) : List D) = ([] : List D)) ∧ (((vC l n) : Nat) = 0) ∧ (((nB l n) : Int) = 2)) zk ⟨(by first | (rw [hz2]; done) | (rw [hz2]; rfl) | (rw [hz2, hz0]; done) | (rw [hz2, hz0]; rfl)), a9, a9⟩
    ·refine kI (.no :: .no :: .b false :: kJ 5 (.b false :: kJ 4 [.b false, .no])) ((¬ ((ka0 l (k * 2) 0) < 0)) ∧ (¬ ((ka0 l ((k * 2) + 1) 0) < (ka0 l (k * 2) 0))) ∧ (¬ ((2147483647 : Int) < (ka0 l ((k * 2) + 1) 0)))) [(0, sV .i64 l n), (2, rV 0 0), (7, sV .i64 l n), (8, uV n), (9, uV k), (27, bV false)] [(0, some (44, .ds [qF]))] 2 ⟨zo, zo, zo⟩ ?_
     refine yC ?_
     refine yD [.w, .no] (qJ ((k : Int) + 1)) [(0, sV .i64 l n), (2, rV 0 0), (7, sV .i64 l n), (8, uV n), (9, iV (↑k + 1))] ⟨by omega, by omega⟩ ?_
     exact qE ⟨((k + 1) : Nat), ⟨a7, (fun j hj => (Nat.lt_succ_iff_lt_or_eq.1 hj).elim (ha j) (fun e9 => by subst e9; exact decide_eq_true zo))⟩⟩ [] (P := (kZ (dI .i64 l)) ∧ (kP n) ∧ (kP 0) ∧ (kZ (dI .i64 l)) ∧ (kP n) ∧ (kN (n : Int)) ∧ (((((k + 1) : Nat) : Int) : Int) = ((k : Int) + 1)) ∧ (kZ [qF])) zk ⟨rfl, rfl, rfl, rfl, rfl, rfl, c4, rfl⟩ (show n - (k + 1) < n - k from fR)
 ·refine kI [.b false] (¬ ((k : Int) < (n : Int))) [(0, sV .i64 l n), (2, rV 0 0), (7, sV .i64 l n), (8, uV n), (9, uV k), (10, bV false)] [(0, some (44, .ds [qF]))] 1 zo ?_
  refine AW.seq ?_
  refine zf ?_
  refine AW.exit ?_
  have hR : RG l n := lS.1 (u4t (fun j hj => ha j (by omega)))
  have hx5 : ((ka1 (sU l)) = ((l9 l) * 2)) := xO l
  have hx6 : ((l9 l) ≤ n) := u05 (zo) ((by first | omega | with_reducible assumption | (simp only [u2, ka3, kb1, kb5, kb3, kb2, kb6, kc2] <;> omega) | rfl | assumption))
  refine kI [.no, .call [] (sV .i64 (sU l) (l9 l)) [] 0 [] none, .no, .no, .no] _ [(2, rV 0 0), (6, rV 1 0)] [(0, some (44, .ds [qF])), (1, some (44, .ds [dl (sU l) (l9 l)]))] 2 (k6r l n zo zo (by first | omega | with_reducible assumption | (simp only [u2, ka3, kb1, kb5, kb3, kb2, kb6, kc2] <;> omega) | rfl | assumption)) ?_
  refine AW.seq ?_
  by_cases hx7 : ((64 : Int) < (((l9 l) : Nat) : Int))
  ·refine k8 [.no, .no, .no, .b true] (((64 : Int) < (l9 l : Int))) [(2, rV 0 0), (6, rV 1 0), (36, bV true)] zo ?_
   refine zt ?_
   refine kI [.no, .no, .no] True [(2, rV 0 0), (3, iV 3)] [(0, some (44, .ds [qF]))] 2 trivial ?_
   obtain ⟨hz1, hz2, hz3⟩ := u21 (lS.2 hR) zo
   refine aH (l' := [(2, rV 0 0), (3, iV 3)]) (g' := [(0, some (44, .ds [D.sl ([] : List D) 0]))]) (NlS.cons rfl (.same _) (NlS.cons rfl (.same _) NlS.nil)) (NlG.to (bc := .ds [qF]) rfl (NlL.cons (.nil) NlL.nil) NlG.nil) ?_
   refine AW.ret ?_
   exact kC (.inr rfl) [] (P := (((dI .i64 (dR l n)) : List D) = ([] : List D)) ∧ (((vC l n) : Nat) = 0) ∧ (((nB l n) : Int) = 3)) zk ⟨(by first | (rw [hz2]; done) | (rw [hz2]; rfl) | (rw [hz2, hz0]; done) | (rw [hz2, hz0]; rfl)), a9, a9⟩
  ·refine k8 [.no, .no, .no, .b false] (¬ ((64 : Int) < (l9 l : Int))) [(2, rV 0 0), (6, rV 1 0), (36, bV false)] zo ?_
   refine yC ?_
   refine kI [.no, .no, .no] True [(2, rV 0 0), (3, iV 0)] [(0, some (44, .ds [dl (sU l) (l9 l)]))] 2 trivial ?_
   obtain ⟨hz1, hz2, hz3⟩ := k0g (lS.2 hR) zo
   refine AW.ret ?_
   exact kC (.inr rfl) [] (P := (((dI .i64 (dR l n)) : List D) = (dI .i64 (sU l))) ∧ (((vC l n) : Nat) = (l9 l)) ∧ (((nB l n) : Int) = 0)) zk ⟨(by first | (rw [hz2]; done) | (rw [hz2]; rfl) | (rw [hz2, hz0]; done) | (rw [hz2, hz0]; rfl)), a9, a9⟩
end Go.Proofs.Ytdbjebdomdnbkaa
