/- Sets of integers: B. No statement is proved here. -/
import Derived.Test.YtalbpleglapihaaZL09A
namespace Go.Proofs.Ytalbpleglapihaa
open Go.ChangeShapes Go.WideShapes Go.ChangeAt Go.RowKit
set_option linter.unusedVariables false
set_option linter.unusedSimpArgs false
set_option maxHeartbeats 4000000
set_option maxRecDepth 100000
theorem vP {p : Prop} (h : p := by first | omega | assumption | simp) : p := h
theorem qY {p : Prop} (h : p := by first | omega | (simp only [uZ, qL, List.length_append, List.length_cons, List.length_nil, List.length_take, List.length_drop, List.length_replicate, List.length_set, List.length_map, List.length_reverse, Nat.mul_one] <;> omega) | rfl) : p := h
theorem aZ {p : Prop} (h : p := by first | rfl | omega | assumption | (simp; done) | (simp; omega)) : p := h
theorem cQ {p : Prop} (h : p := by first | omega | (show _ < _; simp; omega)) : p := h
theorem j5 {p : Prop} (h : p := by simp only [u5, qT, Nat.zero_mul, Nat.one_mul, List.drop_zero]) : p := h
theorem rF {p : Prop} (h : p := by first | assumption | (simp only [uZ, List.length_append, List.length_cons, List.length_nil, List.length_set] <;> omega)) : p := h
theorem vQ {p : Prop} (h : p := by first | omega | rfl | assumption | (simp; done) | (simp; omega)) : p := h
abbrev bM (l : List Int) (i : Nat) : BC := .ds [iD (List.getD l (i * 2) 0), iD (List.getD l ((i * 2) + 1) 0)]
theorem k3d (l : List Int) (n : Nat) (hl : List.length l = n * 2) (hb : n ≤ 1000000) (hR : RG l n) : Fun 76 [.c (.d (D.sl (dI .i64 l) n))] (kG []) 0 (sV .i64 (nL l) (g8 l)) (kG []) 0 := by
 refine Fun.mk (n := 86) Try.func76 rfl rfl (Nat.le_of_ble_eq_true rfl) ?_
 intro cx hcx
 refine kK [.no] True [(0, sV .i64 l n)] [] 0 trivial ?_
 refine kX [.no, .no] True [(0, sV .i64 l n), (3, nV), (4, nV)] trivial ?_
 refine AW.seq ?_
 refine kX [.no, .no, .no] True [(3, nV), (4, nV), (11, sV .i64 l n), (12, uV n), (13, iV 0)] trivial ?_
 refine AW.block ?_
 refine AW.adoptS 3 2 96 rfl ?_
 refine kW 0 hcx (fun (x : {x : Nat × List Int // match x with | (i, o) => (i ≤ n) ∧ (SI l i o) ∧ (List.length o = i * 2)}) => match x with | ⟨(i, o), _⟩ => (⟨[(3, oV 1 0 i 2), (4, nV), (11, sV .i64 l n), (12, uV n), (13, uV i)], [(1, some (96, .ds (dI .i64 o)))], 2⟩ : ES)) (fun x => match x with | ⟨(i, o), _⟩ => n - i) ⟨((0 : Nat), (([] : List Int) : List Int)), ⟨vP, (SI.zero l), rfl⟩⟩ [(1, 0)] (P := (kM 0) ∧ (kM 0) ∧ ((.slice none 0 0 : Value) = .slice none 0 0) ∧ (k8 (dI .i64 l)) ∧ (kM n) ∧ (kN (n : Int)) ∧ (kN 0) ∧ (((dI .i64 ([] : List Int)) : List D) = ([] : List D))) zk ⟨rfl, rfl, rfl, rfl, rfl, rfl, rfl, (by first | rfl | with_reducible assumption)⟩ ?_
 rintro ⟨⟨i, o⟩, hinv0⟩
 obtain ⟨hi, hS, ho⟩ : (i ≤ n) ∧ (SI l i o) ∧ (List.length o = i * 2) := hinv0
 refine uI (l := [(3, oV 1 0 i 2), (4, nV), (11, sV .i64 l n), (12, uV n), (13, uV i)]) (g := [(1, some (96, .ds (dI .i64 o)))]) (nx := 2) rfl rfl rfl ?_
 by_cases hx1 : (((i : Nat) : Int) < ((n : Nat) : Int))
 ·refine kK [.b true] (((i : Int) < (n : Int))) [(3, oV 1 0 i 2), (4, nV), (11, sV .i64 l n), (12, uV n), (13, uV i), (14, bV true)] [(1, some (96, .ds (dI .i64 o)))] 2 zo ?_
  refine AW.seq ?_
  refine vC ?_
  refine AW.seq ?_
  refine AW.block ?_
  refine kK [.n i, .ds [iD (List.getD l (i * 2) 0), iD (List.getD l ((i * 2) + 1) 0)], .no, .no] ((kN (i : Int)) ∧ (i < n) ∧ (List.take 2 (List.drop (i * 2) (dI .i64 l)) = [iD (List.getD l (i * 2) 0), iD (List.getD l ((i * 2) + 1) 0)]) ∧ (([iD (List.getD l (i * 2) 0), iD (List.getD l ((i * 2) + 1) 0)] : List D).length = 2)) [(3, oV 1 0 i 2), (4, nV), (6, rV 2 0), (11, sV .i64 l n), (12, uV n), (13, uV i)] [(1, some (96, .ds (dI .i64 o))), (2, some (96, (bM l i)))] 3 ⟨rfl, zo, (c6 .i64 l (i * 2) 2 qY), rfl⟩ ?_
  refine AW.freeze 1 (l' := [(3, sV .i64 o i), (4, nV), (6, rV 2 0), (11, sV .i64 l n), (12, uV n), (13, uV i)]) (g' := [(2, some (96, (bM l i)))]) rfl (FzS.cons rfl (.e (.c (@FzC.own 1 ((dI .i64 o) : List D) 0 i 2 true ((dI .i64 o) : List D) (by rw [List.drop_zero, List.take_of_length_le (by first | omega | (simp only [uZ, qL, List.length_append, List.length_cons, List.length_nil, List.length_take, List.length_drop, List.length_replicate, List.length_set, List.length_map, List.length_reverse, Nat.mul_one] <;> omega))]) qY))) (FzS.cons rfl (.same _) (FzS.cons rfl (.same _) (FzS.cons rfl (.same _) (FzS.cons rfl (.same _) (FzS.cons rfl (.same _) FzS.nil)))))) (uO rfl rfl FzG.nil) ?_
  refine kK [.no, .no, .no] True [(3, sV .i64 o i), (4, nV), (6, rV 2 0), (7, uV i), (11, sV .i64 l n), (12, uV n), (13, uV i)] [(2, some (96, (bM l i)))] 3 trivial ?_
  refine AW.seq ?_
  refine AW.block ?_
  refine kW 0 hcx (fun (x : {x : Nat // match x with | k => (k ≤ i) ∧ (∀ j, k ≤ j → j < i → List.getD l (i * 2) 0 < List.getD o (j * 2) 0)}) => match x with | ⟨k, _⟩ => (⟨[(3, sV .i64 o i), (4, nV), (6, rV 2 0), (7, uV k), (11, sV .i64 l n), (12, uV n), (13, uV i)], [(2, some (96, (bM l i)))], 3⟩ : ES)) (fun x => match x with | ⟨k, _⟩ => k) ⟨(i : Nat), ⟨vP, (fun j h8 h9 => by omega)⟩⟩ [] (P := (k8 (dI .i64 o)) ∧ (kM i) ∧ ((.slice none 0 0 : Value) = .slice none 0 0) ∧ (kM 0) ∧ (kN (i : Int)) ∧ (k8 (dI .i64 l)) ∧ (kM n) ∧ (kN (n : Int)) ∧ (kN (i : Int)) ∧ (k8 [iD (List.getD l (i * 2) 0), iD (List.getD l ((i * 2) + 1) 0)])) zk ⟨rfl, rfl, rfl, rfl, rfl, rfl, rfl, rfl, rfl, rfl⟩ ?_
  rintro ⟨k, hinv1⟩
  obtain ⟨hk, hk2⟩ : (k ≤ i) ∧ (∀ j, k ≤ j → j < i → List.getD l (i * 2) 0 < List.getD o (j * 2) 0) := hinv1
  refine uI (l := [(3, sV .i64 o i), (4, nV), (6, rV 2 0), (7, uV k), (11, sV .i64 l n), (12, uV n), (13, uV i)]) (g := [(2, some (96, (bM l i)))]) (nx := 3) rfl rfl rfl ?_
  refine AW.seq ?_
  by_cases hx2 : ((0 : Int) < ((k : Nat) : Int))
  ·by_cases hx3 : ((List.getD l (i * 2) 0) < (List.getD o ((k - 1) * 2) 0))
   ·refine kK [.no, .b true, .no, .no, .no, .w, .n (k - 1), .no, .d (D.lit (.int .i64 (List.getD o ((k - 1) * 2) 0))), .no, .no, .b true, .no] ((((0 : Int) < (k : Int))) ∧ (qM ((k : Int) - 1)) ∧ ((((k : Int) - 1) : Int) = (((k - 1) : Nat) : Int)) ∧ ((k - 1) < i) ∧ ((List.drop 0 (List.drop ((k - 1) * 2) (dI .i64 o)))[0]? = some (D.lit (.int .i64 (List.getD o ((k - 1) * 2) 0)))) ∧ (((List.getD l (i * 2) 0) < (List.getD o ((k - 1) * 2) 0)))) [(3, sV .i64 o i), (4, nV), (6, rV 2 0), (7, uV k), (11, sV .i64 l n), (12, uV n), (13, uV i), (31, bV true)] [(2, some (96, (bM l i)))] 3 ⟨zo, ⟨by omega, by omega⟩, (by first | rfl | omega), zo, (by first | (rw [List.drop_drop]; exact qU _ _ _ qY) | (rw [List.drop_drop, Nat.add_comm]; exact qU _ _ _ qY)), zo⟩ ?_
    refine vC ?_
    refine AW.block ?_
    refine yG [.no, .w, .no] (qM ((k : Int) - 1)) [(3, sV .i64 o i), (4, nV), (6, rV 2 0), (7, iV (↑k - 1)), (11, sV .i64 l n), (12, uV n), (13, uV i)] ⟨by omega, by omega⟩ ?_
    exact qR ⟨((k - 1) : Nat), ⟨vP, (k19 hk2 zo zo)⟩⟩ [] (P := (k8 (dI .i64 o)) ∧ (kM i) ∧ ((.slice none 0 0 : Value) = .slice none 0 0) ∧ (kM 0) ∧ (((((k - 1) : Nat) : Int) : Int) = ((k : Int) - 1)) ∧ (k8 (dI .i64 l)) ∧ (kM n) ∧ (kN (n : Int)) ∧ (kN (i : Int)) ∧ (k8 [iD (List.getD l (i * 2) 0), iD (List.getD l ((i * 2) + 1) 0)])) zk ⟨rfl, rfl, rfl, rfl, aZ, rfl, rfl, rfl, rfl, rfl⟩ (show (k - 1) < k from cQ)
   ·refine kK [.no, .b true, .no, .no, .no, .w, .n (k - 1), .no, .d (D.lit (.int .i64 (List.getD o ((k - 1) * 2) 0))), .no, .no, .b false, .no] ((((0 : Int) < (k : Int))) ∧ (qM ((k : Int) - 1)) ∧ ((((k : Int) - 1) : Int) = (((k - 1) : Nat) : Int)) ∧ ((k - 1) < i) ∧ ((List.drop 0 (List.drop ((k - 1) * 2) (dI .i64 o)))[0]? = some (D.lit (.int .i64 (List.getD o ((k - 1) * 2) 0)))) ∧ (¬ ((List.getD l (i * 2) 0) < (List.getD o ((k - 1) * 2) 0)))) [(3, sV .i64 o i), (4, nV), (6, rV 2 0), (7, uV k), (11, sV .i64 l n), (12, uV n), (13, uV i), (31, bV false)] [(2, some (96, (bM l i)))] 3 ⟨zo, ⟨by omega, by omega⟩, (by first | rfl | omega), zo, (by first | (rw [List.drop_drop]; exact qU _ _ _ qY) | (rw [List.drop_drop, Nat.add_comm]; exact qU _ _ _ qY)), zo⟩ ?_
    refine zf ?_
    refine AW.exit ?_
    refine aV [.no, .no, .sls 0 k k (dI .i64 (List.take (k * 2) o)), .ap none k (dI .i64 (List.take (k * 2) o)), .no, .no, .ap none (k + 1) (dI .i64 ((List.take (k * 2) o) ++ ([(List.getD l (i * 2) 0), (List.getD l ((i * 2) + 1) 0)] : List Int))), .no, .no, .sls k i (i - k) (dI .i64 (List.take ((i - k) * 2) (List.drop (k * 2) o))), .ap none ((k + 1) + (i - k)) (dI .i64 (((List.take (k * 2) o) ++ ([(List.getD l (i * 2) 0), (List.getD l ((i * 2) + 1) 0)] : List Int)) ++ (List.take ((i - k) * 2) (List.drop (k * 2) o)))), .no] ((kM 0) ∧ (kN (k : Int)) ∧ ((0 : Nat) ≤ k) ∧ (k ≤ i) ∧ (k - 0 = k) ∧ (List.take (k * 2) (List.drop (0 * 2) (dI .i64 o)) = (dI .i64 (List.take (k * 2) o))) ∧ ((dI .i64 (List.take (k * 2) o)).length = k * 2) ∧ (k * 16 ≤ 140737488355328) ∧ (k = k) ∧ (k8 (dI .i64 (List.take (k * 2) o))) ∧ ([iD (List.getD l (i * 2) 0), iD (List.getD l ((i * 2) + 1) 0)].length = 1 * 2) ∧ (((dI .i64 (List.take (k * 2) o)) : List D).length = k * 2) ∧ ((k + 1) * 16 ≤ 140737488355328) ∧ (k + 1 = (k + 1)) ∧ (((dI .i64 (List.take (k * 2) o)) : List D) ++ [iD (List.getD l (i * 2) 0), iD (List.getD l ((i * 2) + 1) 0)] = (dI .i64 ((List.take (k * 2) o) ++ ([(List.getD l (i * 2) 0), (List.getD l ((i * 2) + 1) 0)] : List Int)))) ∧ (kN (k : Int)) ∧ (i = i) ∧ (k ≤ i) ∧ (i ≤ i) ∧ (i - k = (i - k)) ∧ (List.take ((i - k) * 2) (List.drop (k * 2) (dI .i64 o)) = (dI .i64 (List.take ((i - k) * 2) (List.drop (k * 2) o)))) ∧ ((dI .i64 (List.take ((i - k) * 2) (List.drop (k * 2) o))).length = (i - k) * 2) ∧ (((dI .i64 ((List.take (k * 2) o) ++ ([(List.getD l (i * 2) 0), (List.getD l ((i * 2) + 1) 0)] : List Int))) : List D).length = (k + 1) * 2) ∧ (((k + 1) + (i - k)) * 16 ≤ 140737488355328) ∧ ((k + 1) + (i - k) = ((k + 1) + (i - k))) ∧ (((dI .i64 ((List.take (k * 2) o) ++ ([(List.getD l (i * 2) 0), (List.getD l ((i * 2) + 1) 0)] : List Int))) : List D) ++ (dI .i64 (List.take ((i - k) * 2) (List.drop (k * 2) o))) = (dI .i64 (((List.take (k * 2) o) ++ ([(List.getD l (i * 2) 0), (List.getD l ((i * 2) + 1) 0)] : List Int)) ++ (List.take ((i - k) * 2) (List.drop (k * 2) o)))))) [(3, oV 6 0 ((k + 1) + (i - k)) 2), (4, nV), (11, sV .i64 l n), (12, uV n), (13, uV i)] [(6, some (96, .ds (dI .i64 (((List.take (k * 2) o) ++ ([(List.getD l (i * 2) 0), (List.getD l ((i * 2) + 1) 0)] : List Int)) ++ (List.take ((i - k) * 2) (List.drop (k * 2) o))))))] 7 ⟨rfl, rfl, zo, zo, zo, j5, qY, zo, rfl, rfl, qY, qY, zo, zo, (qK .i64 (List.take (k * 2) o) ([(List.getD l (i * 2) 0), (List.getD l ((i * 2) + 1) 0)] : List Int)), rfl, rfl, zo, zo, zo, j5, qY, qY, zo, zo, (qK .i64 ((List.take (k * 2) o) ++ ([(List.getD l (i * 2) 0), (List.getD l ((i * 2) + 1) 0)] : List Int)) (List.take ((i - k) * 2) (List.drop (k * 2) o)))⟩ ?_
    refine yG [.w, .no] (qM ((i : Int) + 1)) [(3, oV 6 0 ((k + 1) + (i - k)) 2), (4, nV), (11, sV .i64 l n), (12, uV n), (13, iV (↑i + 1))] ⟨by omega, by omega⟩ ?_
    exact qR ⟨(((i + 1) : Nat), ((((List.take (k * 2) o) ++ ([(List.getD l (i * 2) 0), (List.getD l ((i * 2) + 1) 0)] : List Int)) ++ (List.take ((i - k) * 2) (List.drop (k * 2) o))) : List Int)), ⟨vP, (hS.step hl zo rfl rfl zo (fun j h8 h9 => hk2 j h8 zo) zo (by first | rfl | (congr 1; exact (List.take_of_length_le (by rw [List.length_drop]; omega))))), (by simp only [uZ, List.length_append, List.length_cons, List.length_nil, List.length_take, List.length_drop] <;> omega)⟩⟩ [(1, 6)] (P := (kM 0) ∧ (((i + 1) : Nat) = ((k + 1) + (i - k))) ∧ ((.slice none 0 0 : Value) = .slice none 0 0) ∧ (k8 (dI .i64 l)) ∧ (kM n) ∧ (kN (n : Int)) ∧ (((((i + 1) : Nat) : Int) : Int) = ((i : Int) + 1)) ∧ (k8 (dI .i64 (((List.take (k * 2) o) ++ ([(List.getD l (i * 2) 0), (List.getD l ((i * 2) + 1) 0)] : List Int)) ++ (List.take ((i - k) * 2) (List.drop (k * 2) o)))))) zk ⟨rfl, aZ, rfl, rfl, rfl, rfl, aZ, rfl⟩ (show n - (i + 1) < n - i from cQ)
  ·refine kK [.no, .b false, .no, .no] (¬ ((0 : Int) < (k : Int))) [(3, sV .i64 o i), (4, nV), (6, rV 2 0), (7, uV k), (11, sV .i64 l n), (12, uV n), (13, uV i), (31, bV false)] [(2, some (96, (bM l i)))] 3 zo ?_
   refine zf ?_
   refine AW.exit ?_
   refine aV [.no, .no, .sls 0 k k (dI .i64 (List.take (k * 2) o)), .ap none k (dI .i64 (List.take (k * 2) o)), .no, .no, .ap none (k + 1) (dI .i64 ((List.take (k * 2) o) ++ ([(List.getD l (i * 2) 0), (List.getD l ((i * 2) + 1) 0)] : List Int))), .no, .no, .sls k i (i - k) (dI .i64 (List.take ((i - k) * 2) (List.drop (k * 2) o))), .ap none ((k + 1) + (i - k)) (dI .i64 (((List.take (k * 2) o) ++ ([(List.getD l (i * 2) 0), (List.getD l ((i * 2) + 1) 0)] : List Int)) ++ (List.take ((i - k) * 2) (List.drop (k * 2) o)))), .no] ((kM 0) ∧ (kN (k : Int)) ∧ ((0 : Nat) ≤ k) ∧ (k ≤ i) ∧ (k - 0 = k) ∧ (List.take (k * 2) (List.drop (0 * 2) (dI .i64 o)) = (dI .i64 (List.take (k * 2) o))) ∧ ((dI .i64 (List.take (k * 2) o)).length = k * 2) ∧ (k * 16 ≤ 140737488355328) ∧ (k = k) ∧ (k8 (dI .i64 (List.take (k * 2) o))) ∧ ([iD (List.getD l (i * 2) 0), iD (List.getD l ((i * 2) + 1) 0)].length = 1 * 2) ∧ (((dI .i64 (List.take (k * 2) o)) : List D).length = k * 2) ∧ ((k + 1) * 16 ≤ 140737488355328) ∧ (k + 1 = (k + 1)) ∧ (((dI .i64 (List.take (k * 2) o)) : List D) ++ [iD (List.getD l (i * 2) 0), iD (List.getD l ((i * 2) + 1) 0)] = (dI .i64 ((List.take (k * 2) o) ++ ([(List.getD l (i * 2) 0), (List.getD l ((i * 2) + 1) 0)] : List Int)))) ∧ (kN (k : Int)) ∧ (i = i) ∧ (k ≤ i) ∧ (i ≤ i) ∧ (i - k = (i - k)) ∧ (List.take ((i - k) * 2) (List.drop (k * 2) (dI .i64 o)) = (dI .i64 (List.take ((i - k) * 2) (List.drop (k * 2) o)))) ∧ ((dI .i64 (List.take ((i - k) * 2) (List.drop (k * 2) o))).length = (i - k) * 2) ∧ (((dI .i64 ((List.take (k * 2) o) ++ ([(List.getD l (i * 2) 0), (List.getD l ((i * 2) + 1) 0)] : List Int))) : List D).length = (k + 1) * 2) ∧ (((k + 1) + (i - k)) * 16 ≤ 140737488355328) ∧ ((k + 1) + (i - k) = ((k + 1) + (i - k))) ∧ (((dI .i64 ((List.take (k * 2) o) ++ ([(List.getD l (i * 2) 0), (List.getD l ((i * 2) + 1) 0)] : List Int))) : List D) ++ (dI .i64 (List.take ((i - k) * 2) (List.drop (k * 2) o))) = (dI .i64 (((List.take (k * 2) o) ++ ([(List.getD l (i * 2) 0), (List.getD l ((i * 2) + 1) 0)] : List Int)) ++ (List.take ((i - k) * 2) (List.drop (k * 2) o)))))) [(3, oV 6 0 ((k + 1) + (i - k)) 2), (4, nV), (11, sV .i64 l n), (12, uV n), (13, uV i)] [(6, some (96, .ds (dI .i64 (((List.take (k * 2) o) ++ ([(List.getD l (i * 2) 0), (List.getD l ((i * 2) + 1) 0)] : List Int)) ++ (List.take ((i - k) * 2) (List.drop (k * 2) o))))))] 7 ⟨rfl, rfl, zo, zo, zo, j5, qY, zo, rfl, rfl, qY, qY, zo, zo, (qK .i64 (List.take (k * 2) o) ([(List.getD l (i * 2) 0), (List.getD l ((i * 2) + 1) 0)] : List Int)), rfl, rfl, zo, zo, zo, j5, qY, qY, zo, zo, (qK .i64 ((List.take (k * 2) o) ++ ([(List.getD l (i * 2) 0), (List.getD l ((i * 2) + 1) 0)] : List Int)) (List.take ((i - k) * 2) (List.drop (k * 2) o)))⟩ ?_
   refine yG [.w, .no] (qM ((i : Int) + 1)) [(3, oV 6 0 ((k + 1) + (i - k)) 2), (4, nV), (11, sV .i64 l n), (12, uV n), (13, iV (↑i + 1))] ⟨by omega, by omega⟩ ?_
   exact qR ⟨(((i + 1) : Nat), ((((List.take (k * 2) o) ++ ([(List.getD l (i * 2) 0), (List.getD l ((i * 2) + 1) 0)] : List Int)) ++ (List.take ((i - k) * 2) (List.drop (k * 2) o))) : List Int)), ⟨vP, (hS.step hl zo rfl rfl zo (fun j h8 h9 => hk2 j h8 zo) zo (by first | rfl | (congr 1; exact (List.take_of_length_le (by rw [List.length_drop]; omega))))), (by simp only [uZ, List.length_append, List.length_cons, List.length_nil, List.length_take, List.length_drop] <;> omega)⟩⟩ [(1, 6)] (P := (kM 0) ∧ (((i + 1) : Nat) = ((k + 1) + (i - k))) ∧ ((.slice none 0 0 : Value) = .slice none 0 0) ∧ (k8 (dI .i64 l)) ∧ (kM n) ∧ (kN (n : Int)) ∧ (((((i + 1) : Nat) : Int) : Int) = ((i : Int) + 1)) ∧ (k8 (dI .i64 (((List.take (k * 2) o) ++ ([(List.getD l (i * 2) 0), (List.getD l ((i * 2) + 1) 0)] : List Int)) ++ (List.take ((i - k) * 2) (List.drop (k * 2) o)))))) zk ⟨rfl, aZ, rfl, rfl, rfl, rfl, aZ, rfl⟩ (show n - (i + 1) < n - i from cQ)
 ·refine kK [.b false] (¬ ((i : Int) < (n : Int))) [(3, oV 1 0 i 2), (4, nV), (11, sV .i64 l n), (12, uV n), (13, uV i), (14, bV false)] [(1, some (96, .ds (dI .i64 o)))] 2 zo ?_
  refine AW.seq ?_
  refine zf ?_
  refine AW.exit ?_
  refine AW.seq ?_
  obtain rfl : n = i := (by omega)
  have hRo : RG o n := hS.rg hl (by omega) hR
  refine kK [.no, .no, .no] True [(4, nV), (46, oV 1 0 n 2), (47, uV n), (48, iV 0)] [(1, some (96, .ds (dI .i64 o)))] 2 trivial ?_
  refine AW.block ?_
  refine AW.adoptS 4 2 96 rfl ?_
  refine kW 0 hcx (fun (x : {x : Nat × Nat × List Int // match x with | (i2, k2, u) => (i2 ≤ n ∧ k2 ≤ i2) ∧ (MG o i2 k2 u) ∧ (List.length u = k2 * 2)}) => match x with | ⟨(i2, k2, u), _⟩ => (⟨[(4, oV 3 0 k2 2), (46, oV 1 0 n 2), (47, uV n), (48, uV i2)], [(1, some (96, .ds (dI .i64 o))), (3, some (96, .ds (dI .i64 u)))], 4⟩ : ES)) (fun x => match x with | ⟨(i2, k2, u), _⟩ => n - i2) ⟨((0 : Nat), (0 : Nat), (([] : List Int) : List Int)), ⟨vP, (MG.zero _), rfl⟩⟩ [(3, 2)] (P := (kM 0) ∧ (kM 0) ∧ (kM 0) ∧ (kM n) ∧ (kN (n : Int)) ∧ (kN 0) ∧ (k8 (dI .i64 o)) ∧ (((dI .i64 ([] : List Int)) : List D) = ([] : List D))) zk ⟨rfl, rfl, rfl, rfl, rfl, rfl, rfl, (by first | rfl | with_reducible assumption)⟩ ?_
  rintro ⟨⟨i2, k2, u⟩, hinv2⟩
  obtain ⟨hi2, hM, hu⟩ : (i2 ≤ n ∧ k2 ≤ i2) ∧ (MG o i2 k2 u) ∧ (List.length u = k2 * 2) := hinv2
  refine uI (l := [(4, oV 3 0 k2 2), (46, oV 1 0 n 2), (47, uV n), (48, uV i2)]) (g := [(1, some (96, .ds (dI .i64 o))), (3, some (96, .ds (dI .i64 u)))]) (nx := 4) rfl rfl rfl ?_
  by_cases hx4 : (((i2 : Nat) : Int) < ((n : Nat) : Int))
  ·refine kK [.b true] (((i2 : Int) < (n : Int))) [(4, oV 3 0 k2 2), (46, oV 1 0 n 2), (47, uV n), (48, uV i2), (49, bV true)] [(1, some (96, .ds (dI .i64 o))), (3, some (96, .ds (dI .i64 u)))] 4 zo ?_
   refine AW.seq ?_
   refine vC ?_
   refine AW.seq ?_
   refine AW.block ?_
   refine kK [.n2 i2 (i2 * 2), .ds [iD (List.getD o (i2 * 2) 0), iD (List.getD o ((i2 * 2) + 1) 0)], .no, .no] ((kN (i2 : Int)) ∧ (i2 < n) ∧ ((0 : Nat) + i2 * 2 = (i2 * 2)) ∧ (List.take 2 (List.drop (i2 * 2) (dI .i64 o)) = [iD (List.getD o (i2 * 2) 0), iD (List.getD o ((i2 * 2) + 1) 0)]) ∧ (([iD (List.getD o (i2 * 2) 0), iD (List.getD o ((i2 * 2) + 1) 0)] : List D).length = 2)) [(4, oV 3 0 k2 2), (9, rV 4 0), (46, oV 1 0 n 2), (47, uV n), (48, uV i2)] [(1, some (96, .ds (dI .i64 o))), (3, some (96, .ds (dI .i64 u))), (4, some (96, .ds [iD (List.getD o (i2 * 2) 0), iD (List.getD o ((i2 * 2) + 1) 0)]))] 5 ⟨rfl, zo, zo, (c6 .i64 o (i2 * 2) 2 qY), rfl⟩ ?_
   refine kX [.no, .no, .w, .no] (qM ((k2 : Int) - 1)) [(4, oV 3 0 k2 2), (9, rV 4 0), (10, iV (↑k2 - 1)), (46, oV 1 0 n 2), (47, uV n), (48, uV i2)] ⟨by omega, by omega⟩ ?_
   by_cases hx6 : ((0 : Int) ≤ (((k2 : Nat) : Int) - 1))
   ·by_cases hx9 : (((List.getD o (i2 * 2) 0) - 1) ≤ (List.getD u (((k2 - 1) * 2) + 1) 0))
    ·have hx10 : 0 ≤ List.getD o (i2 * 2) 0 ∧ List.getD o (i2 * 2) 0 ≤ List.getD o (i2 * 2 + 1) 0 ∧ List.getD o (i2 * 2 + 1) 0 ≤ 2147483647 := hRo i2 zo
     have hx11 : 0 ≤ List.getD u ((k2 - 1) * 2 + 1) 0 ∧ List.getD u ((k2 - 1) * 2 + 1) 0 ≤ 2147483647 := hM.hi ho hRo zo
     refine kX [.no, .b true, .no, .no, .no, .w, .no, .no, .n2 (k2 - 1) ((k2 - 1) * 2), .no, .d (D.lit (.int .i64 (List.getD u (((k2 - 1) * 2) + 1) 0))), .b true, .no] ((((0 : Int) ≤ ((k2 : Int) - 1))) ∧ (qM ((List.getD o (i2 * 2) 0) - 1)) ∧ ((((k2 : Int) - 1) : Int) = (((k2 - 1) : Nat) : Int)) ∧ ((k2 - 1) < k2) ∧ ((0 : Nat) + (k2 - 1) * 2 = ((k2 - 1) * 2)) ∧ ((dI .i64 u)[(((k2 - 1) * 2) + 1)]? = some (D.lit (.int .i64 (List.getD u (((k2 - 1) * 2) + 1) 0)))) ∧ ((((List.getD o (i2 * 2) 0) - 1) ≤ (List.getD u (((k2 - 1) * 2) + 1) 0)))) [(4, oV 3 0 k2 2), (9, rV 4 0), (10, iV (↑k2 - 1)), (46, oV 1 0 n 2), (47, uV n), (48, uV i2), (67, bV true)] ⟨zo, ⟨by omega, by omega⟩, (by first | rfl | omega), zo, zo, (eV _ _ _ qY), zo⟩ ?_
     refine zt ?_
     refine aV (kU 4 [.n2 (k2 - 1) ((k2 - 1) * 2), .no, .d (D.lit (.int .i64 (List.getD u (((k2 - 1) * 2) + 1) 0))), .no, .no, .no, .n2 (k2 - 1) ((k2 - 1) * 2), .no, .ds (dI .i64 (List.set u (((k2 - 1) * 2) + 1) (max (List.getD u (((k2 - 1) * 2) + 1) 0) (List.getD o ((i2 * 2) + 1) 0))))]) (((((k2 : Int) - 1) : Int) = (((k2 - 1) : Nat) : Int)) ∧ ((k2 - 1) < k2) ∧ ((0 : Nat) + (k2 - 1) * 2 = ((k2 - 1) * 2)) ∧ ((dI .i64 u)[(((k2 - 1) * 2) + 1)]? = some (D.lit (.int .i64 (List.getD u (((k2 - 1) * 2) + 1) 0)))) ∧ ((((k2 : Int) - 1) : Int) = (((k2 - 1) : Nat) : Int)) ∧ ((k2 - 1) < k2) ∧ ((0 : Nat) + (k2 - 1) * 2 = ((k2 - 1) * 2)) ∧ ((((k2 - 1) * 2) + 1) + 1 ≤ (dI .i64 u).length) ∧ (wY (dI .i64 u) (((k2 - 1) * 2) + 1) [D.lit (.int .i64 (max (List.getD u (((k2 - 1) * 2) + 1) 0) (List.getD o ((i2 * 2) + 1) 0)))] = dI .i64 (List.set u (((k2 - 1) * 2) + 1) (max (List.getD u (((k2 - 1) * 2) + 1) 0) (List.getD o ((i2 * 2) + 1) 0))))) [(4, oV 3 0 k2 2), (46, oV 1 0 n 2), (47, uV n), (48, uV i2)] [(1, some (96, .ds (dI .i64 o))), (3, some (96, .ds (dI .i64 (List.set u (((k2 - 1) * 2) + 1) (max (List.getD u (((k2 - 1) * 2) + 1) 0) (List.getD o ((i2 * 2) + 1) 0))))))] 5 ⟨(by first | rfl | omega), zo, zo, (eV _ _ _ qY), (by first | rfl | omega), zo, zo, qY, (k95 _ _ _ _)⟩ ?_
     refine yG [.w, .no] (qM ((i2 : Int) + 1)) [(4, oV 3 0 k2 2), (46, oV 1 0 n 2), (47, uV n), (48, iV (↑i2 + 1))] ⟨by omega, by omega⟩ ?_
     exact qR ⟨(((i2 + 1) : Nat), (k2 : Nat), ((List.set u (((k2 - 1) * 2) + 1) (max (List.getD u (((k2 - 1) * 2) + 1) 0) (List.getD o ((i2 * 2) + 1) 0))) : List Int)), ⟨vP, (by first | exact hM.new ho zo rfl rfl zo rfl | exact hM.join ho zo rfl rfl zo zo rfl rfl), rF⟩⟩ [] (P := (kM 0) ∧ (kM k2) ∧ (kM 0) ∧ (kM n) ∧ (kN (n : Int)) ∧ (((((i2 + 1) : Nat) : Int) : Int) = ((i2 : Int) + 1)) ∧ (k8 (dI .i64 o)) ∧ (k8 (dI .i64 (List.set u (((k2 - 1) * 2) + 1) (max (List.getD u (((k2 - 1) * 2) + 1) 0) (List.getD o ((i2 * 2) + 1) 0)))))) zk ⟨rfl, rfl, rfl, rfl, rfl, aZ, rfl, rfl⟩ (show n - (i2 + 1) < n - i2 from cQ)
    ·have hx12 : 0 ≤ List.getD o (i2 * 2) 0 ∧ List.getD o (i2 * 2) 0 ≤ List.getD o (i2 * 2 + 1) 0 ∧ List.getD o (i2 * 2 + 1) 0 ≤ 2147483647 := hRo i2 zo
     have hx13 : 0 ≤ List.getD u ((k2 - 1) * 2 + 1) 0 ∧ List.getD u ((k2 - 1) * 2 + 1) 0 ≤ 2147483647 := hM.hi ho hRo zo
     refine kX [.no, .b true, .no, .no, .no, .w, .no, .no, .n2 (k2 - 1) ((k2 - 1) * 2), .no, .d (D.lit (.int .i64 (List.getD u (((k2 - 1) * 2) + 1) 0))), .b false, .no] ((((0 : Int) ≤ ((k2 : Int) - 1))) ∧ (qM ((List.getD o (i2 * 2) 0) - 1)) ∧ ((((k2 : Int) - 1) : Int) = (((k2 - 1) : Nat) : Int)) ∧ ((k2 - 1) < k2) ∧ ((0 : Nat) + (k2 - 1) * 2 = ((k2 - 1) * 2)) ∧ ((dI .i64 u)[(((k2 - 1) * 2) + 1)]? = some (D.lit (.int .i64 (List.getD u (((k2 - 1) * 2) + 1) 0)))) ∧ (¬ (((List.getD o (i2 * 2) 0) - 1) ≤ (List.getD u (((k2 - 1) * 2) + 1) 0)))) [(4, oV 3 0 k2 2), (9, rV 4 0), (10, iV (↑k2 - 1)), (46, oV 1 0 n 2), (47, uV n), (48, uV i2), (67, bV false)] ⟨zo, ⟨by omega, by omega⟩, (by first | rfl | omega), zo, zo, (eV _ _ _ qY), zo⟩ ?_
     refine zf ?_
     refine aV [.no, .no, .no, .ap none (k2 + 1) (dI .i64 (u ++ ([(List.getD o (i2 * 2) 0), (List.getD o ((i2 * 2) + 1) 0)] : List Int))), .no] (([iD (List.getD o (i2 * 2) 0), iD (List.getD o ((i2 * 2) + 1) 0)].length = 1 * 2) ∧ (((dI .i64 u) : List D).length = k2 * 2) ∧ ((k2 + 1) * 16 ≤ 140737488355328) ∧ (k2 + 1 = (k2 + 1)) ∧ (((dI .i64 u) : List D) ++ [iD (List.getD o (i2 * 2) 0), iD (List.getD o ((i2 * 2) + 1) 0)] = (dI .i64 (u ++ ([(List.getD o (i2 * 2) 0), (List.getD o ((i2 * 2) + 1) 0)] : List Int))))) [(4, oV 6 0 (k2 + 1) 2), (46, oV 1 0 n 2), (47, uV n), (48, uV i2)] [(1, some (96, .ds (dI .i64 o))), (6, some (96, .ds (dI .i64 (u ++ ([(List.getD o (i2 * 2) 0), (List.getD o ((i2 * 2) + 1) 0)] : List Int)))))] 7 ⟨qY, qY, zo, zo, (qK .i64 u ([(List.getD o (i2 * 2) 0), (List.getD o ((i2 * 2) + 1) 0)] : List Int))⟩ ?_
     refine yG [.w, .no] (qM ((i2 : Int) + 1)) [(4, oV 6 0 (k2 + 1) 2), (46, oV 1 0 n 2), (47, uV n), (48, iV (↑i2 + 1))] ⟨by omega, by omega⟩ ?_
     exact qR ⟨(((i2 + 1) : Nat), ((k2 + 1) : Nat), ((u ++ ([(List.getD o (i2 * 2) 0), (List.getD o ((i2 * 2) + 1) 0)] : List Int)) : List Int)), ⟨vP, (by first | exact hM.new ho zo rfl rfl zo rfl | exact hM.join ho zo rfl rfl zo zo rfl rfl), rF⟩⟩ [(3, 6)] (P := (kM 0) ∧ (kM (k2 + 1)) ∧ (kM 0) ∧ (kM n) ∧ (kN (n : Int)) ∧ (((((i2 + 1) : Nat) : Int) : Int) = ((i2 : Int) + 1)) ∧ (k8 (dI .i64 o)) ∧ (k8 (dI .i64 (u ++ ([(List.getD o (i2 * 2) 0), (List.getD o ((i2 * 2) + 1) 0)] : List Int))))) zk ⟨rfl, rfl, rfl, rfl, rfl, aZ, rfl, rfl⟩ (show n - (i2 + 1) < n - i2 from cQ)
   ·have hx14 : 0 ≤ List.getD o (i2 * 2) 0 ∧ List.getD o (i2 * 2) 0 ≤ List.getD o (i2 * 2 + 1) 0 ∧ List.getD o (i2 * 2 + 1) 0 ≤ 2147483647 := hRo i2 zo
    refine kX [.no, .b false, .no, .no] (¬ ((0 : Int) ≤ ((k2 : Int) - 1))) [(4, oV 3 0 k2 2), (9, rV 4 0), (10, iV (↑k2 - 1)), (46, oV 1 0 n 2), (47, uV n), (48, uV i2), (67, bV false)] zo ?_
    refine zf ?_
    refine aV [.no, .no, .no, .ap none (k2 + 1) (dI .i64 (u ++ ([(List.getD o (i2 * 2) 0), (List.getD o ((i2 * 2) + 1) 0)] : List Int))), .no] (([iD (List.getD o (i2 * 2) 0), iD (List.getD o ((i2 * 2) + 1) 0)].length = 1 * 2) ∧ (((dI .i64 u) : List D).length = k2 * 2) ∧ ((k2 + 1) * 16 ≤ 140737488355328) ∧ (k2 + 1 = (k2 + 1)) ∧ (((dI .i64 u) : List D) ++ [iD (List.getD o (i2 * 2) 0), iD (List.getD o ((i2 * 2) + 1) 0)] = (dI .i64 (u ++ ([(List.getD o (i2 * 2) 0), (List.getD o ((i2 * 2) + 1) 0)] : List Int))))) [(4, oV 6 0 (k2 + 1) 2), (46, oV 1 0 n 2), (47, uV n), (48, uV i2)] [(1, some (96, .ds (dI .i64 o))), (6, some (96, .ds (dI .i64 (u ++ ([(List.getD o (i2 * 2) 0), (List.getD o ((i2 * 2) + 1) 0)] : List Int)))))] 7 ⟨qY, qY, zo, zo, (qK .i64 u ([(List.getD o (i2 * 2) 0), (List.getD o ((i2 * 2) + 1) 0)] : List Int))⟩ ?_
    refine yG [.w, .no] (qM ((i2 : Int) + 1)) [(4, oV 6 0 (k2 + 1) 2), (46, oV 1 0 n 2), (47, uV n), (48, iV (↑i2 + 1))] ⟨by omega, by omega⟩ ?_
    exact qR ⟨(((i2 + 1) : Nat), ((k2 + 1) : Nat), ((u ++ ([(List.getD o (i2 * 2) 0), (List.getD o ((i2 * 2) + 1) 0)] : List Int)) : List Int)), ⟨vP, (by first | exact hM.new ho zo rfl rfl zo rfl | exact hM.join ho zo rfl rfl zo zo rfl rfl), rF⟩⟩ [(3, 6)] (P := (kM 0) ∧ (kM (k2 + 1)) ∧ (kM 0) ∧ (kM n) ∧ (kN (n : Int)) ∧ (((((i2 + 1) : Nat) : Int) : Int) = ((i2 : Int) + 1)) ∧ (k8 (dI .i64 o)) ∧ (k8 (dI .i64 (u ++ ([(List.getD o (i2 * 2) 0), (List.getD o ((i2 * 2) + 1) 0)] : List Int))))) zk ⟨rfl, rfl, rfl, rfl, rfl, aZ, rfl, rfl⟩ (show n - (i2 + 1) < n - i2 from cQ)
  ·refine kK [.b false] (¬ ((i2 : Int) < (n : Int))) [(4, oV 3 0 k2 2), (46, oV 1 0 n 2), (47, uV n), (48, uV i2), (49, bV false)] [(1, some (96, .ds (dI .i64 o))), (3, some (96, .ds (dI .i64 u)))] 4 zo ?_
   refine AW.seq ?_
   refine zf ?_
   refine AW.exit ?_
   refine kK [.no, .no] True [(2, oV 3 0 k2 2)] [(3, some (96, .ds (dI .i64 u)))] 4 trivial ?_
   obtain ⟨hz1, hz2⟩ := k8d hl hR ho (hS.all hl zo) hS.sr (by have h9 := hM; rw [show i2 = n by omega] at h9; exact h9)
   refine AW.freeze 3 (l' := [(2, sV .i64 u k2)]) (g' := []) rfl (FzS.cons rfl (.e (.c (@FzC.own 3 ((dI .i64 u) : List D) 0 k2 2 true ((dI .i64 u) : List D) (by rw [List.drop_zero, List.take_of_length_le (by first | omega | (simp only [uZ, qL, List.length_append, List.length_cons, List.length_nil, List.length_take, List.length_drop, List.length_replicate, List.length_set, List.length_map, List.length_reverse, Nat.mul_one] <;> omega))]) qY))) FzS.nil) FzG.nil ?_
   refine AW.ret ?_
   exact kC (.inr rfl) [] (P := (((dI .i64 (nL l)) : List D) = (dI .i64 u)) ∧ (((g8 l) : Nat) = k2)) zk ⟨(by first | rfl | exact congrArg _ hz1.symm), vQ⟩
theorem wS (l : List Int) (n : Nat) (hl : List.length l = n * 2) (hb : n ≤ 1000000) : Fun 71 [.c (.d (D.sl (dI .i64 l) n))] (kG []) 0 (.tup [.agg [.d (D.sl (dI .i64 (bF l n)) (yF l n))], iE (i4 l n)]) (kG []) 0 := by
 refine Fun.mk (n := 39) Try.func71 rfl rfl (Nat.le_of_ble_eq_true rfl) ?_
 intro cx hcx
 refine kK [.no, .no] True [(0, sV .i64 l n), (2, rV 0 0)] [(0, some (75, .ds [qI]))] 1 trivial ?_
 refine AW.seq ?_
 refine kX [.no, .no, .no] True [(0, sV .i64 l n), (2, rV 0 0), (7, sV .i64 l n), (8, uV n), (9, iV 0)] trivial ?_
 refine AW.block ?_
 refine kW 0 hcx (fun (x : {x : Nat // match x with | k => (k ≤ n) ∧ (∀ j, j < k → rgE l j = true)}) => match x with | ⟨k, _⟩ => (⟨[(0, sV .i64 l n), (2, rV 0 0), (7, sV .i64 l n), (8, uV n), (9, uV k)], [(0, some (75, .ds [qI]))], 1⟩ : ES)) (fun x => match x with | ⟨k, _⟩ => n - k) ⟨(0 : Nat), ⟨vP, (fun j hj => absurd hj (Nat.not_lt_zero j))⟩⟩ [] (P := (k8 (dI .i64 l)) ∧ (kM n) ∧ (kM 0) ∧ (k8 (dI .i64 l)) ∧ (kM n) ∧ (kN (n : Int)) ∧ (kN 0) ∧ (k8 [qI])) zk ⟨rfl, rfl, rfl, rfl, rfl, rfl, rfl, rfl⟩ ?_
 rintro ⟨k, hinv0⟩
 obtain ⟨hk, ha⟩ : (k ≤ n) ∧ (∀ j, j < k → rgE l j = true) := hinv0
 refine uI (l := [(0, sV .i64 l n), (2, rV 0 0), (7, sV .i64 l n), (8, uV n), (9, uV k)]) (g := [(0, some (75, .ds [qI]))]) (nx := 1) rfl rfl rfl ?_
 by_cases hx1 : (((k : Nat) : Int) < ((n : Nat) : Int))
 ·refine kK [.b true] (((k : Int) < (n : Int))) [(0, sV .i64 l n), (2, rV 0 0), (7, sV .i64 l n), (8, uV n), (9, uV k), (10, bV true)] [(0, some (75, .ds [qI]))] 1 zo ?_
  refine AW.seq ?_
  refine vC ?_
  refine AW.seq ?_
  refine AW.block ?_
  refine kK [.n k, .ds [iD (List.getD l (k * 2) 0), iD (List.getD l ((k * 2) + 1) 0)], .no, .no] ((kN (k : Int)) ∧ (k < n) ∧ (List.take 2 (List.drop (k * 2) (dI .i64 l)) = [iD (List.getD l (k * 2) 0), iD (List.getD l ((k * 2) + 1) 0)]) ∧ (([iD (List.getD l (k * 2) 0), iD (List.getD l ((k * 2) + 1) 0)] : List D).length = 2)) [(0, sV .i64 l n), (2, rV 0 0), (5, rV 1 0), (7, sV .i64 l n), (8, uV n), (9, uV k)] [(0, some (75, .ds [qI])), (1, some (96, .ds [iD (List.getD l (k * 2) 0), iD (List.getD l ((k * 2) + 1) 0)]))] 2 ⟨rfl, zo, (c6 .i64 l (k * 2) 2 qY), rfl⟩ ?_
  by_cases hx2 : ((List.getD l (k * 2) 0) < 0)
  ·refine kK (.no :: .no :: .b true :: kU 4 []) (((List.getD l (k * 2) 0) < 0)) [(0, sV .i64 l n), (2, rV 0 0), (7, sV .i64 l n), (8, uV n), (9, uV k), (27, bV true)] [(0, some (75, .ds [qI]))] 2 zo ?_
   refine zt ?_
   refine kX [.no, .no, .no] True [(2, rV 0 0), (3, iV 2)] trivial ?_
   obtain ⟨hz1, hz2, hz3⟩ := sA (l := l) (n := n) (k7m (k := k) zo (decide_eq_false zo))
   refine aJ (l' := [(2, rV 0 0), (3, iV 2)]) (g' := [(0, some (75, .ds [D.sl ([] : List D) 0]))]) (NlS.cons rfl (.same _) (NlS.cons rfl (.same _) NlS.nil)) (NlG.to (bc := .ds [qI]) rfl (NlL.cons (.nil) NlL.nil) NlG.nil) ?_
   refine AW.ret ?_
   exact kC (.inr rfl) [] (P := (((dI .i64 (bF l n)) : List D) = ([] : List D)) ∧ (((yF l n) : Nat) = 0) ∧ (((i4 l n) : Int) = 2)) zk ⟨(by first | (rw [hz2]; done) | (rw [hz2]; rfl) | (rw [hz2, hz0]; done) | (rw [hz2, hz0]; rfl)), vQ, vQ⟩
  ·by_cases hx3 : ((List.getD l ((k * 2) + 1) 0) < (List.getD l (k * 2) 0))
   ·refine kK (.no :: .no :: .b false :: kU 5 [.b true, .no, .no, .no]) ((¬ ((List.getD l (k * 2) 0) < 0)) ∧ (((List.getD l ((k * 2) + 1) 0) < (List.getD l (k * 2) 0)))) [(0, sV .i64 l n), (2, rV 0 0), (7, sV .i64 l n), (8, uV n), (9, uV k), (27, bV true)] [(0, some (75, .ds [qI]))] 2 ⟨zo, zo⟩ ?_
    refine zt ?_
    refine kX [.no, .no, .no] True [(2, rV 0 0), (3, iV 2)] trivial ?_
    obtain ⟨hz1, hz2, hz3⟩ := sA (l := l) (n := n) (k7m (k := k) zo (decide_eq_false zo))
    refine aJ (l' := [(2, rV 0 0), (3, iV 2)]) (g' := [(0, some (75, .ds [D.sl ([] : List D) 0]))]) (NlS.cons rfl (.same _) (NlS.cons rfl (.same _) NlS.nil)) (NlG.to (bc := .ds [qI]) rfl (NlL.cons (.nil) NlL.nil) NlG.nil) ?_
    refine AW.ret ?_
    exact kC (.inr rfl) [] (P := (((dI .i64 (bF l n)) : List D) = ([] : List D)) ∧ (((yF l n) : Nat) = 0) ∧ (((i4 l n) : Int) = 2)) zk ⟨(by first | (rw [hz2]; done) | (rw [hz2]; rfl) | (rw [hz2, hz0]; done) | (rw [hz2, hz0]; rfl)), vQ, vQ⟩
   ·by_cases hx4 : ((2147483647 : Int) < (List.getD l ((k * 2) + 1) 0))
    ·refine kK (.no :: .no :: .b false :: kU 5 (.b false :: kU 4 [.b true, .no])) ((¬ ((List.getD l (k * 2) 0) < 0)) ∧ (¬ ((List.getD l ((k * 2) + 1) 0) < (List.getD l (k * 2) 0))) ∧ (((2147483647 : Int) < (List.getD l ((k * 2) + 1) 0)))) [(0, sV .i64 l n), (2, rV 0 0), (7, sV .i64 l n), (8, uV n), (9, uV k), (27, bV true)] [(0, some (75, .ds [qI]))] 2 ⟨zo, zo, zo⟩ ?_
     refine zt ?_
     refine kX [.no, .no, .no] True [(2, rV 0 0), (3, iV 2)] trivial ?_
     obtain ⟨hz1, hz2, hz3⟩ := sA (l := l) (n := n) (k7m (k := k) zo (decide_eq_false zo))
     refine aJ (l' := [(2, rV 0 0), (3, iV 2)]) (g' := [(0, some (75, .ds [D.sl ([] : List D) 0]))]) (NlS.cons rfl (.same _) (NlS.cons rfl (.same _) NlS.nil)) (NlG.to (bc := .ds [qI]) rfl (NlL.cons (.nil) NlL.nil) NlG.nil) ?_
     refine AW.ret ?_
     exact kC (.inr rfl) [] (P := (((dI .i64 (bF l n)) : List D) = ([] : List D)) ∧ (((yF l n) : Nat) = 0) ∧ (((i4 l n) : Int) = 2)) zk ⟨(by first | (rw [hz2]; done) | (rw [hz2]; rfl) | (rw [hz2, hz0]; done) | (rw [hz2, hz0]; rfl)), vQ, vQ⟩
    ·refine kK (.no :: .no :: .b false :: kU 5 (.b false :: kU 4 [.b false, .no])) ((¬ ((List.getD l (k * 2) 0) < 0)) ∧ (¬ ((List.getD l ((k * 2) + 1) 0) < (List.getD l (k * 2) 0))) ∧ (¬ ((2147483647 : Int) < (List.getD l ((k * 2) + 1) 0)))) [(0, sV .i64 l n), (2, rV 0 0), (7, sV .i64 l n), (8, uV n), (9, uV k), (27, bV false)] [(0, some (75, .ds [qI]))] 2 ⟨zo, zo, zo⟩ ?_
     refine yW ?_
     refine yG [.w, .no] (qM ((k : Int) + 1)) [(0, sV .i64 l n), (2, rV 0 0), (7, sV .i64 l n), (8, uV n), (9, iV (↑k + 1))] ⟨by omega, by omega⟩ ?_
     exact qR ⟨((k + 1) : Nat), ⟨vP, (fun j hj => (Nat.lt_succ_iff_lt_or_eq.1 hj).elim (ha j) (fun e9 => by subst e9; exact decide_eq_true zo))⟩⟩ [] (P := (k8 (dI .i64 l)) ∧ (kM n) ∧ (kM 0) ∧ (k8 (dI .i64 l)) ∧ (kM n) ∧ (kN (n : Int)) ∧ (((((k + 1) : Nat) : Int) : Int) = ((k : Int) + 1)) ∧ (k8 [qI])) zk ⟨rfl, rfl, rfl, rfl, rfl, rfl, aZ, rfl⟩ (show n - (k + 1) < n - k from cQ)
 ·refine kK [.b false] (¬ ((k : Int) < (n : Int))) [(0, sV .i64 l n), (2, rV 0 0), (7, sV .i64 l n), (8, uV n), (9, uV k), (10, bV false)] [(0, some (75, .ds [qI]))] 1 zo ?_
  refine AW.seq ?_
  refine zf ?_
  refine AW.exit ?_
  have hR : RG l n := gL.1 (u0g (fun j hj => ha j (by omega)))
  have hx5 : ((List.length (nL l)) = ((g8 l) * 2)) := sB l
  have hx6 : ((g8 l) ≤ n) := k6h (zo) ((by first | omega | with_reducible assumption | (simp only [uZ, List.length_append, List.length_cons, List.length_nil, List.length_take, List.length_drop, List.length_replicate, List.length_set] <;> omega) | rfl | assumption))
  refine kK [.no, .call [] (sV .i64 (nL l) (g8 l)) [] 0 [] none, .no, .no, .no] _ [(2, rV 0 0), (6, rV 1 0)] [(0, some (75, .ds [qI])), (1, some (75, .ds [dl (nL l) (g8 l)]))] 2 (k3d l n zo zo (by first | omega | with_reducible assumption | (simp only [uZ, List.length_append, List.length_cons, List.length_nil, List.length_take, List.length_drop, List.length_replicate, List.length_set] <;> omega) | rfl | assumption)) ?_
  refine AW.seq ?_
  by_cases hx7 : ((64 : Int) < (((g8 l) : Nat) : Int))
  ·refine kX [.no, .no, .no, .b true] (((64 : Int) < (g8 l : Int))) [(2, rV 0 0), (6, rV 1 0), (36, bV true)] zo ?_
   refine zt ?_
   refine kK [.no, .no, .no] True [(2, rV 0 0), (3, iV 3)] [(0, some (75, .ds [qI]))] 2 trivial ?_
   obtain ⟨hz1, hz2, hz3⟩ := k87 (gL.2 hR) zo
   refine aJ (l' := [(2, rV 0 0), (3, iV 3)]) (g' := [(0, some (75, .ds [D.sl ([] : List D) 0]))]) (NlS.cons rfl (.same _) (NlS.cons rfl (.same _) NlS.nil)) (NlG.to (bc := .ds [qI]) rfl (NlL.cons (.nil) NlL.nil) NlG.nil) ?_
   refine AW.ret ?_
   exact kC (.inr rfl) [] (P := (((dI .i64 (bF l n)) : List D) = ([] : List D)) ∧ (((yF l n) : Nat) = 0) ∧ (((i4 l n) : Int) = 3)) zk ⟨(by first | (rw [hz2]; done) | (rw [hz2]; rfl) | (rw [hz2, hz0]; done) | (rw [hz2, hz0]; rfl)), vQ, vQ⟩
  ·refine kX [.no, .no, .no, .b false] (¬ ((64 : Int) < (g8 l : Int))) [(2, rV 0 0), (6, rV 1 0), (36, bV false)] zo ?_
   refine yW ?_
   refine kK [.no, .no, .no] True [(2, rV 0 0), (3, iV 0)] [(0, some (75, .ds [dl (nL l) (g8 l)]))] 2 trivial ?_
   obtain ⟨hz1, hz2, hz3⟩ := wA (gL.2 hR) zo
   refine AW.ret ?_
   exact kC (.inr rfl) [] (P := (((dI .i64 (bF l n)) : List D) = (dI .i64 (nL l))) ∧ (((yF l n) : Nat) = (g8 l)) ∧ (((i4 l n) : Int) = 0)) zk ⟨(by first | (rw [hz2]; done) | (rw [hz2]; rfl) | (rw [hz2, hz0]; done) | (rw [hz2, hz0]; rfl)), vQ, vQ⟩
end Go.Proofs.Ytalbpleglapihaa
