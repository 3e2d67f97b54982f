/- Sets of integers: B. No statement is proved here. -/
import Derived.Test.YtcfmjpnffembpaaGreatZL09A
namespace Go.Proofs.YtcfmjpnffembpaaGreat
open Go.ChangeShapes Go.WideShapes Go.ChangeAt Go.RowKit
set_option linter.unusedVariables false
set_option linter.unusedSimpArgs false
set_option maxHeartbeats 4000000
set_option maxRecDepth 100000
theorem zl09b6 {p : Prop} (h : p := by first | omega | assumption | simp) : p := h
theorem zl09b0 {p : Prop} (h : p := by first | omega | (simp only [bsD_len, dI_len, List.length_append, List.length_cons, List.length_nil, List.length_take, List.length_drop, List.length_replicate, List.length_set, List.length_map, List.length_reverse, Nat.mul_one] <;> omega) | rfl) : p := h
theorem zl09b3 {p : Prop} (h : p := by first | rfl | omega | assumption | (simp; done) | (simp; omega)) : p := h
theorem zl09b5 {p : Prop} (h : p := by first | omega | (show _ < _; simp; omega)) : p := h
theorem zl09b2 {p : Prop} (h : p := by simp only [dI_take, dI_drop, Nat.zero_mul, Nat.one_mul, List.drop_zero]) : p := h
theorem zl09b1 {p : Prop} (h : p := by first | assumption | (simp only [bsD_len, List.length_append, List.length_cons, List.length_nil, List.length_set] <;> omega)) : p := h
theorem zl09b4 {p : Prop} (h : p := by first | omega | rfl | assumption | (simp; done) | (simp; omega)) : p := h
abbrev t9B1_0 (l : List Int) (i : Nat) : BC := .ds [iD (List.getD l (i * 2) 0), iD (List.getD l ((i * 2) + 1) 0)]
theorem U_joined (l : List Int) (n : Nat) (hl : List.length l = n * 2) (hb : n ≤ 1000000) (hR : RG l n) : Fun 149 [.c (.d (D.sl (dI .i64 l) n))] (toG []) 0 (sV .i64 (jdS l) (jdN l)) (toG []) 0 := by
 refine Fun.mk (n := 86) Tryz.func149 rfl rfl (Nat.le_of_ble_eq_true rfl) ?_
 intro cx hcx
 refine y9r [.no] True [(0, sV .i64 l n)] [] 0 trivial ?_
 refine y9s [.no, .no] True [(0, sV .i64 l n), (3, nV), (4, nV)] trivial ?_
 refine AW.seq ?_
 refine y9s [.no, .no, .no] True [(3, nV), (4, nV), (11, sV .i64 l n), (12, uV n), (13, iV 0)] trivial ?_
 refine AW.block ?_
 refine AW.adoptS 3 2 77 rfl ?_
 refine AW.loopE 0 hcx (fun (x : {x : Nat × List Int // match x with | (i, o) => (i ≤ n) ∧ (SI l i o) ∧ (List.length o = i * 2)}) => match x with | ⟨(i, o), _⟩ => (⟨[(3, oV 1 0 i 2), (4, nV), (11, sV .i64 l n), (12, uV n), (13, uV i)], [(1, some (77, .ds (dI .i64 o)))], 2⟩ : ES)) (fun x => match x with | ⟨(i, o), _⟩ => n - i) ⟨((0 : Nat), (([] : List Int) : List Int)), ⟨zl09b6, (SI.zero l), rfl⟩⟩ [(1, 0)] (P := (q9n 0) ∧ (q9n 0) ∧ ((.slice none 0 0 : Value) = .slice none 0 0) ∧ (q9d (dI .i64 l)) ∧ (q9n n) ∧ (q9i (n : Int)) ∧ (q9i 0) ∧ (((dI .i64 ([] : List Int)) : List D) = ([] : List D))) zk ⟨rfl, rfl, rfl, rfl, rfl, rfl, rfl, (by first | rfl | with_reducible assumption)⟩ ?_
 rintro ⟨⟨i, o⟩, hinv0⟩
 obtain ⟨hi, hS, ho⟩ : (i ≤ n) ∧ (SI l i o) ∧ (List.length o = i * 2) := hinv0
 refine AW.es (l := [(3, oV 1 0 i 2), (4, nV), (11, sV .i64 l n), (12, uV n), (13, uV i)]) (g := [(1, some (77, .ds (dI .i64 o)))]) (nx := 2) rfl rfl rfl ?_
 by_cases hx1 : (((i : Nat) : Int) < ((n : Nat) : Int))
 ·refine y9r [.b true] (((i : Int) < (n : Int))) [(3, oV 1 0 i 2), (4, nV), (11, sV .i64 l n), (12, uV n), (13, uV i), (14, bV true)] [(1, some (77, .ds (dI .i64 o)))] 2 zo ?_
  refine AW.seq ?_
  refine zts ?_
  refine AW.seq ?_
  refine AW.block ?_
  refine y9r [.n i, .ds [iD (List.getD l (i * 2) 0), iD (List.getD l ((i * 2) + 1) 0)], .no, .no] ((q9i (i : Int)) ∧ (i < n) ∧ (List.take 2 (List.drop (i * 2) (dI .i64 l)) = [iD (List.getD l (i * 2) 0), iD (List.getD l ((i * 2) + 1) 0)]) ∧ (([iD (List.getD l (i * 2) 0), iD (List.getD l ((i * 2) + 1) 0)] : List D).length = 2)) [(3, oV 1 0 i 2), (4, nV), (6, rV 2 0), (11, sV .i64 l n), (12, uV n), (13, uV i)] [(1, some (77, .ds (dI .i64 o))), (2, some (77, (t9B1_0 l i)))] 3 ⟨rfl, zo, (dI_lds .i64 l (i * 2) 2 zl09b0), rfl⟩ ?_
  refine AW.freeze 1 (l' := [(3, sV .i64 o i), (4, nV), (6, rV 2 0), (11, sV .i64 l n), (12, uV n), (13, uV i)]) (g' := [(2, some (77, (t9B1_0 l i)))]) rfl (FzS.cons rfl (.e (.c (@FzC.own 1 ((dI .i64 o) : List D) 0 i 2 true ((dI .i64 o) : List D) (by rw [List.drop_zero, List.take_of_length_le (by first | omega | (simp only [bsD_len, dI_len, List.length_append, List.length_cons, List.length_nil, List.length_take, List.length_drop, List.length_replicate, List.length_set, List.length_map, List.length_reverse, Nat.mul_one] <;> omega))]) zl09b0))) (FzS.cons rfl (.same _) (FzS.cons rfl (.same _) (FzS.cons rfl (.same _) (FzS.cons rfl (.same _) (FzS.cons rfl (.same _) FzS.nil)))))) (FzG.keep rfl rfl FzG.nil) ?_
  refine y9r [.no, .no, .no] True [(3, sV .i64 o i), (4, nV), (6, rV 2 0), (7, uV i), (11, sV .i64 l n), (12, uV n), (13, uV i)] [(2, some (77, (t9B1_0 l i)))] 3 trivial ?_
  refine AW.seq ?_
  refine AW.block ?_
  refine AW.loopE 0 hcx (fun (x : {x : Nat // match x with | k => (k ≤ i) ∧ (∀ j, k ≤ j → j < i → List.getD l (i * 2) 0 < List.getD o (j * 2) 0)}) => match x with | ⟨k, _⟩ => (⟨[(3, sV .i64 o i), (4, nV), (6, rV 2 0), (7, uV k), (11, sV .i64 l n), (12, uV n), (13, uV i)], [(2, some (77, (t9B1_0 l i)))], 3⟩ : ES)) (fun x => match x with | ⟨k, _⟩ => k) ⟨(i : Nat), ⟨zl09b6, (fun j h8 h9 => by omega)⟩⟩ [] (P := (q9d (dI .i64 o)) ∧ (q9n i) ∧ ((.slice none 0 0 : Value) = .slice none 0 0) ∧ (q9n 0) ∧ (q9i (i : Int)) ∧ (q9d (dI .i64 l)) ∧ (q9n n) ∧ (q9i (n : Int)) ∧ (q9i (i : Int)) ∧ (q9d [iD (List.getD l (i * 2) 0), iD (List.getD l ((i * 2) + 1) 0)])) zk ⟨rfl, rfl, rfl, rfl, rfl, rfl, rfl, rfl, rfl, rfl⟩ ?_
  rintro ⟨k, hinv1⟩
  obtain ⟨hk, hk2⟩ : (k ≤ i) ∧ (∀ j, k ≤ j → j < i → List.getD l (i * 2) 0 < List.getD o (j * 2) 0) := hinv1
  refine AW.es (l := [(3, sV .i64 o i), (4, nV), (6, rV 2 0), (7, uV k), (11, sV .i64 l n), (12, uV n), (13, uV i)]) (g := [(2, some (77, (t9B1_0 l i)))]) (nx := 3) rfl rfl rfl ?_
  refine AW.seq ?_
  by_cases hx2 : ((0 : Int) < ((k : Nat) : Int))
  ·by_cases hx3 : ((List.getD l (i * 2) 0) < (List.getD o ((k - 1) * 2) 0))
   ·refine y9r [.no, .b true, .no, .no, .no, .w, .n (k - 1), .no, .d (D.lit (.int .i64 (List.getD o ((k - 1) * 2) 0))), .no, .no, .b true, .no] ((((0 : Int) < (k : Int))) ∧ ((-9223372036854775808) ≤ ((k : Int) - 1) ∧ ((k : Int) - 1) ≤ 9223372036854775807) ∧ ((((k : Int) - 1) : Int) = (((k - 1) : Nat) : Int)) ∧ ((k - 1) < i) ∧ ((List.drop 0 (List.drop ((k - 1) * 2) (dI .i64 o)))[0]? = some (D.lit (.int .i64 (List.getD o ((k - 1) * 2) 0)))) ∧ (((List.getD l (i * 2) 0) < (List.getD o ((k - 1) * 2) 0)))) [(3, sV .i64 o i), (4, nV), (6, rV 2 0), (7, uV k), (11, sV .i64 l n), (12, uV n), (13, uV i), (31, bV true)] [(2, some (77, (t9B1_0 l i)))] 3 ⟨zo, ⟨by omega, by omega⟩, (by first | rfl | omega), zo, (by first | (rw [List.drop_drop]; exact dI_at _ _ _ zl09b0) | (rw [List.drop_drop, Nat.add_comm]; exact dI_at _ _ _ zl09b0)), zo⟩ ?_
    refine zts ?_
    refine AW.block ?_
    refine y9h [.no, .w, .no] ((-9223372036854775808) ≤ ((k : Int) - 1) ∧ ((k : Int) - 1) ≤ 9223372036854775807) [(3, sV .i64 o i), (4, nV), (6, rV 2 0), (7, iV (↑k - 1)), (11, sV .i64 l n), (12, uV n), (13, uV i)] ⟨by omega, by omega⟩ ?_
    exact Rd.of ⟨((k - 1) : Nat), ⟨zl09b6, (gt_step2 hk2 zo zo)⟩⟩ [] (P := (q9d (dI .i64 o)) ∧ (q9n i) ∧ ((.slice none 0 0 : Value) = .slice none 0 0) ∧ (q9n 0) ∧ (((((k - 1) : Nat) : Int) : Int) = ((k : Int) - 1)) ∧ (q9d (dI .i64 l)) ∧ (q9n n) ∧ (q9i (n : Int)) ∧ (q9i (i : Int)) ∧ (q9d [iD (List.getD l (i * 2) 0), iD (List.getD l ((i * 2) + 1) 0)])) zk ⟨rfl, rfl, rfl, rfl, zl09b3, rfl, rfl, rfl, rfl, rfl⟩ (show (k - 1) < k from zl09b5)
   ·refine y9r [.no, .b true, .no, .no, .no, .w, .n (k - 1), .no, .d (D.lit (.int .i64 (List.getD o ((k - 1) * 2) 0))), .no, .no, .b false, .no] ((((0 : Int) < (k : Int))) ∧ ((-9223372036854775808) ≤ ((k : Int) - 1) ∧ ((k : Int) - 1) ≤ 9223372036854775807) ∧ ((((k : Int) - 1) : Int) = (((k - 1) : Nat) : Int)) ∧ ((k - 1) < i) ∧ ((List.drop 0 (List.drop ((k - 1) * 2) (dI .i64 o)))[0]? = some (D.lit (.int .i64 (List.getD o ((k - 1) * 2) 0)))) ∧ (¬ ((List.getD l (i * 2) 0) < (List.getD o ((k - 1) * 2) 0)))) [(3, sV .i64 o i), (4, nV), (6, rV 2 0), (7, uV k), (11, sV .i64 l n), (12, uV n), (13, uV i), (31, bV false)] [(2, some (77, (t9B1_0 l i)))] 3 ⟨zo, ⟨by omega, by omega⟩, (by first | rfl | omega), zo, (by first | (rw [List.drop_drop]; exact dI_at _ _ _ zl09b0) | (rw [List.drop_drop, Nat.add_comm]; exact dI_at _ _ _ zl09b0)), zo⟩ ?_
    refine zf ?_
    refine AW.exit ?_
    refine y9g [.no, .no, .sls 0 k k (dI .i64 (List.take (k * 2) o)), .ap none k (dI .i64 (List.take (k * 2) o)), .no, .no, .ap none (k + 1) (dI .i64 ((List.take (k * 2) o) ++ ([(List.getD l (i * 2) 0), (List.getD l ((i * 2) + 1) 0)] : List Int))), .no, .no, .sls k i (i - k) (dI .i64 (List.take ((i - k) * 2) (List.drop (k * 2) o))), .ap none ((k + 1) + (i - k)) (dI .i64 (((List.take (k * 2) o) ++ ([(List.getD l (i * 2) 0), (List.getD l ((i * 2) + 1) 0)] : List Int)) ++ (List.take ((i - k) * 2) (List.drop (k * 2) o)))), .no] ((q9n 0) ∧ (q9i (k : Int)) ∧ ((0 : Nat) ≤ k) ∧ (k ≤ i) ∧ (k - 0 = k) ∧ (List.take (k * 2) (List.drop (0 * 2) (dI .i64 o)) = (dI .i64 (List.take (k * 2) o))) ∧ ((dI .i64 (List.take (k * 2) o)).length = k * 2) ∧ (k * 16 ≤ 140737488355328) ∧ (k = k) ∧ (q9d (dI .i64 (List.take (k * 2) o))) ∧ ([iD (List.getD l (i * 2) 0), iD (List.getD l ((i * 2) + 1) 0)].length = 1 * 2) ∧ (((dI .i64 (List.take (k * 2) o)) : List D).length = k * 2) ∧ ((k + 1) * 16 ≤ 140737488355328) ∧ (k + 1 = (k + 1)) ∧ (((dI .i64 (List.take (k * 2) o)) : List D) ++ [iD (List.getD l (i * 2) 0), iD (List.getD l ((i * 2) + 1) 0)] = (dI .i64 ((List.take (k * 2) o) ++ ([(List.getD l (i * 2) 0), (List.getD l ((i * 2) + 1) 0)] : List Int)))) ∧ (q9i (k : Int)) ∧ (i = i) ∧ (k ≤ i) ∧ (i ≤ i) ∧ (i - k = (i - k)) ∧ (List.take ((i - k) * 2) (List.drop (k * 2) (dI .i64 o)) = (dI .i64 (List.take ((i - k) * 2) (List.drop (k * 2) o)))) ∧ ((dI .i64 (List.take ((i - k) * 2) (List.drop (k * 2) o))).length = (i - k) * 2) ∧ (((dI .i64 ((List.take (k * 2) o) ++ ([(List.getD l (i * 2) 0), (List.getD l ((i * 2) + 1) 0)] : List Int))) : List D).length = (k + 1) * 2) ∧ (((k + 1) + (i - k)) * 16 ≤ 140737488355328) ∧ ((k + 1) + (i - k) = ((k + 1) + (i - k))) ∧ (((dI .i64 ((List.take (k * 2) o) ++ ([(List.getD l (i * 2) 0), (List.getD l ((i * 2) + 1) 0)] : List Int))) : List D) ++ (dI .i64 (List.take ((i - k) * 2) (List.drop (k * 2) o))) = (dI .i64 (((List.take (k * 2) o) ++ ([(List.getD l (i * 2) 0), (List.getD l ((i * 2) + 1) 0)] : List Int)) ++ (List.take ((i - k) * 2) (List.drop (k * 2) o)))))) [(3, oV 6 0 ((k + 1) + (i - k)) 2), (4, nV), (11, sV .i64 l n), (12, uV n), (13, uV i)] [(6, some (77, .ds (dI .i64 (((List.take (k * 2) o) ++ ([(List.getD l (i * 2) 0), (List.getD l ((i * 2) + 1) 0)] : List Int)) ++ (List.take ((i - k) * 2) (List.drop (k * 2) o))))))] 7 ⟨rfl, rfl, zo, zo, zo, zl09b2, zl09b0, zo, rfl, rfl, zl09b0, zl09b0, zo, zo, (dI_app .i64 (List.take (k * 2) o) ([(List.getD l (i * 2) 0), (List.getD l ((i * 2) + 1) 0)] : List Int)), rfl, rfl, zo, zo, zo, zl09b2, zl09b0, zl09b0, zo, zo, (dI_app .i64 ((List.take (k * 2) o) ++ ([(List.getD l (i * 2) 0), (List.getD l ((i * 2) + 1) 0)] : List Int)) (List.take ((i - k) * 2) (List.drop (k * 2) o)))⟩ ?_
    refine y9h [.w, .no] ((-9223372036854775808) ≤ ((i : Int) + 1) ∧ ((i : Int) + 1) ≤ 9223372036854775807) [(3, oV 6 0 ((k + 1) + (i - k)) 2), (4, nV), (11, sV .i64 l n), (12, uV n), (13, iV (↑i + 1))] ⟨by omega, by omega⟩ ?_
    exact Rd.of ⟨(((i + 1) : Nat), ((((List.take (k * 2) o) ++ ([(List.getD l (i * 2) 0), (List.getD l ((i * 2) + 1) 0)] : List Int)) ++ (List.take ((i - k) * 2) (List.drop (k * 2) o))) : List Int)), ⟨zl09b6, (hS.step hl zo rfl rfl zo (fun j h8 h9 => hk2 j h8 zo) zo (by first | rfl | (congr 1; exact (List.take_of_length_le (by rw [List.length_drop]; omega))))), (by simp only [bsD_len, List.length_append, List.length_cons, List.length_nil, List.length_take, List.length_drop] <;> omega)⟩⟩ [(1, 6)] (P := (q9n 0) ∧ (((i + 1) : Nat) = ((k + 1) + (i - k))) ∧ ((.slice none 0 0 : Value) = .slice none 0 0) ∧ (q9d (dI .i64 l)) ∧ (q9n n) ∧ (q9i (n : Int)) ∧ (((((i + 1) : Nat) : Int) : Int) = ((i : Int) + 1)) ∧ (q9d (dI .i64 (((List.take (k * 2) o) ++ ([(List.getD l (i * 2) 0), (List.getD l ((i * 2) + 1) 0)] : List Int)) ++ (List.take ((i - k) * 2) (List.drop (k * 2) o)))))) zk ⟨rfl, zl09b3, rfl, rfl, rfl, rfl, zl09b3, rfl⟩ (show n - (i + 1) < n - i from zl09b5)
  ·refine y9r [.no, .b false, .no, .no] (¬ ((0 : Int) < (k : Int))) [(3, sV .i64 o i), (4, nV), (6, rV 2 0), (7, uV k), (11, sV .i64 l n), (12, uV n), (13, uV i), (31, bV false)] [(2, some (77, (t9B1_0 l i)))] 3 zo ?_
   refine zf ?_
   refine AW.exit ?_
   refine y9g [.no, .no, .sls 0 k k (dI .i64 (List.take (k * 2) o)), .ap none k (dI .i64 (List.take (k * 2) o)), .no, .no, .ap none (k + 1) (dI .i64 ((List.take (k * 2) o) ++ ([(List.getD l (i * 2) 0), (List.getD l ((i * 2) + 1) 0)] : List Int))), .no, .no, .sls k i (i - k) (dI .i64 (List.take ((i - k) * 2) (List.drop (k * 2) o))), .ap none ((k + 1) + (i - k)) (dI .i64 (((List.take (k * 2) o) ++ ([(List.getD l (i * 2) 0), (List.getD l ((i * 2) + 1) 0)] : List Int)) ++ (List.take ((i - k) * 2) (List.drop (k * 2) o)))), .no] ((q9n 0) ∧ (q9i (k : Int)) ∧ ((0 : Nat) ≤ k) ∧ (k ≤ i) ∧ (k - 0 = k) ∧ (List.take (k * 2) (List.drop (0 * 2) (dI .i64 o)) = (dI .i64 (List.take (k * 2) o))) ∧ ((dI .i64 (List.take (k * 2) o)).length = k * 2) ∧ (k * 16 ≤ 140737488355328) ∧ (k = k) ∧ (q9d (dI .i64 (List.take (k * 2) o))) ∧ ([iD (List.getD l (i * 2) 0), iD (List.getD l ((i * 2) + 1) 0)].length = 1 * 2) ∧ (((dI .i64 (List.take (k * 2) o)) : List D).length = k * 2) ∧ ((k + 1) * 16 ≤ 140737488355328) ∧ (k + 1 = (k + 1)) ∧ (((dI .i64 (List.take (k * 2) o)) : List D) ++ [iD (List.getD l (i * 2) 0), iD (List.getD l ((i * 2) + 1) 0)] = (dI .i64 ((List.take (k * 2) o) ++ ([(List.getD l (i * 2) 0), (List.getD l ((i * 2) + 1) 0)] : List Int)))) ∧ (q9i (k : Int)) ∧ (i = i) ∧ (k ≤ i) ∧ (i ≤ i) ∧ (i - k = (i - k)) ∧ (List.take ((i - k) * 2) (List.drop (k * 2) (dI .i64 o)) = (dI .i64 (List.take ((i - k) * 2) (List.drop (k * 2) o)))) ∧ ((dI .i64 (List.take ((i - k) * 2) (List.drop (k * 2) o))).length = (i - k) * 2) ∧ (((dI .i64 ((List.take (k * 2) o) ++ ([(List.getD l (i * 2) 0), (List.getD l ((i * 2) + 1) 0)] : List Int))) : List D).length = (k + 1) * 2) ∧ (((k + 1) + (i - k)) * 16 ≤ 140737488355328) ∧ ((k + 1) + (i - k) = ((k + 1) + (i - k))) ∧ (((dI .i64 ((List.take (k * 2) o) ++ ([(List.getD l (i * 2) 0), (List.getD l ((i * 2) + 1) 0)] : List Int))) : List D) ++ (dI .i64 (List.take ((i - k) * 2) (List.drop (k * 2) o))) = (dI .i64 (((List.take (k * 2) o) ++ ([(List.getD l (i * 2) 0), (List.getD l ((i * 2) + 1) 0)] : List Int)) ++ (List.take ((i - k) * 2) (List.drop (k * 2) o)))))) [(3, oV 6 0 ((k + 1) + (i - k)) 2), (4, nV), (11, sV .i64 l n), (12, uV n), (13, uV i)] [(6, some (77, .ds (dI .i64 (((List.take (k * 2) o) ++ ([(List.getD l (i * 2) 0), (List.getD l ((i * 2) + 1) 0)] : List Int)) ++ (List.take ((i - k) * 2) (List.drop (k * 2) o))))))] 7 ⟨rfl, rfl, zo, zo, zo, zl09b2, zl09b0, zo, rfl, rfl, zl09b0, zl09b0, zo, zo, (dI_app .i64 (List.take (k * 2) o) ([(List.getD l (i * 2) 0), (List.getD l ((i * 2) + 1) 0)] : List Int)), rfl, rfl, zo, zo, zo, zl09b2, zl09b0, zl09b0, zo, zo, (dI_app .i64 ((List.take (k * 2) o) ++ ([(List.getD l (i * 2) 0), (List.getD l ((i * 2) + 1) 0)] : List Int)) (List.take ((i - k) * 2) (List.drop (k * 2) o)))⟩ ?_
   refine y9h [.w, .no] ((-9223372036854775808) ≤ ((i : Int) + 1) ∧ ((i : Int) + 1) ≤ 9223372036854775807) [(3, oV 6 0 ((k + 1) + (i - k)) 2), (4, nV), (11, sV .i64 l n), (12, uV n), (13, iV (↑i + 1))] ⟨by omega, by omega⟩ ?_
   exact Rd.of ⟨(((i + 1) : Nat), ((((List.take (k * 2) o) ++ ([(List.getD l (i * 2) 0), (List.getD l ((i * 2) + 1) 0)] : List Int)) ++ (List.take ((i - k) * 2) (List.drop (k * 2) o))) : List Int)), ⟨zl09b6, (hS.step hl zo rfl rfl zo (fun j h8 h9 => hk2 j h8 zo) zo (by first | rfl | (congr 1; exact (List.take_of_length_le (by rw [List.length_drop]; omega))))), (by simp only [bsD_len, List.length_append, List.length_cons, List.length_nil, List.length_take, List.length_drop] <;> omega)⟩⟩ [(1, 6)] (P := (q9n 0) ∧ (((i + 1) : Nat) = ((k + 1) + (i - k))) ∧ ((.slice none 0 0 : Value) = .slice none 0 0) ∧ (q9d (dI .i64 l)) ∧ (q9n n) ∧ (q9i (n : Int)) ∧ (((((i + 1) : Nat) : Int) : Int) = ((i : Int) + 1)) ∧ (q9d (dI .i64 (((List.take (k * 2) o) ++ ([(List.getD l (i * 2) 0), (List.getD l ((i * 2) + 1) 0)] : List Int)) ++ (List.take ((i - k) * 2) (List.drop (k * 2) o)))))) zk ⟨rfl, zl09b3, rfl, rfl, rfl, rfl, zl09b3, rfl⟩ (show n - (i + 1) < n - i from zl09b5)
 ·refine y9r [.b false] (¬ ((i : Int) < (n : Int))) [(3, oV 1 0 i 2), (4, nV), (11, sV .i64 l n), (12, uV n), (13, uV i), (14, bV false)] [(1, some (77, .ds (dI .i64 o)))] 2 zo ?_
  refine AW.seq ?_
  refine zf ?_
  refine AW.exit ?_
  refine AW.seq ?_
  obtain rfl : n = i := (by omega)
  have hRo : RG o n := hS.rg hl (by omega) hR
  refine y9r [.no, .no, .no] True [(4, nV), (46, oV 1 0 n 2), (47, uV n), (48, iV 0)] [(1, some (77, .ds (dI .i64 o)))] 2 trivial ?_
  refine AW.block ?_
  refine AW.adoptS 4 2 77 rfl ?_
  refine AW.loopE 0 hcx (fun (x : {x : Nat × Nat × List Int // match x with | (i2, k2, u) => (i2 ≤ n ∧ k2 ≤ i2) ∧ (MG o i2 k2 u) ∧ (List.length u = k2 * 2)}) => match x with | ⟨(i2, k2, u), _⟩ => (⟨[(4, oV 3 0 k2 2), (46, oV 1 0 n 2), (47, uV n), (48, uV i2)], [(1, some (77, .ds (dI .i64 o))), (3, some (77, .ds (dI .i64 u)))], 4⟩ : ES)) (fun x => match x with | ⟨(i2, k2, u), _⟩ => n - i2) ⟨((0 : Nat), (0 : Nat), (([] : List Int) : List Int)), ⟨zl09b6, (MG.zero _), rfl⟩⟩ [(3, 2)] (P := (q9n 0) ∧ (q9n 0) ∧ (q9n 0) ∧ (q9n n) ∧ (q9i (n : Int)) ∧ (q9i 0) ∧ (q9d (dI .i64 o)) ∧ (((dI .i64 ([] : List Int)) : List D) = ([] : List D))) zk ⟨rfl, rfl, rfl, rfl, rfl, rfl, rfl, (by first | rfl | with_reducible assumption)⟩ ?_
  rintro ⟨⟨i2, k2, u⟩, hinv2⟩
  obtain ⟨hi2, hM, hu⟩ : (i2 ≤ n ∧ k2 ≤ i2) ∧ (MG o i2 k2 u) ∧ (List.length u = k2 * 2) := hinv2
  refine AW.es (l := [(4, oV 3 0 k2 2), (46, oV 1 0 n 2), (47, uV n), (48, uV i2)]) (g := [(1, some (77, .ds (dI .i64 o))), (3, some (77, .ds (dI .i64 u)))]) (nx := 4) rfl rfl rfl ?_
  by_cases hx4 : (((i2 : Nat) : Int) < ((n : Nat) : Int))
  ·refine y9r [.b true] (((i2 : Int) < (n : Int))) [(4, oV 3 0 k2 2), (46, oV 1 0 n 2), (47, uV n), (48, uV i2), (49, bV true)] [(1, some (77, .ds (dI .i64 o))), (3, some (77, .ds (dI .i64 u)))] 4 zo ?_
   refine AW.seq ?_
   refine zts ?_
   refine AW.seq ?_
   refine AW.block ?_
   refine y9r [.n2 i2 (i2 * 2), .ds [iD (List.getD o (i2 * 2) 0), iD (List.getD o ((i2 * 2) + 1) 0)], .no, .no] ((q9i (i2 : Int)) ∧ (i2 < n) ∧ ((0 : Nat) + i2 * 2 = (i2 * 2)) ∧ (List.take 2 (List.drop (i2 * 2) (dI .i64 o)) = [iD (List.getD o (i2 * 2) 0), iD (List.getD o ((i2 * 2) + 1) 0)]) ∧ (([iD (List.getD o (i2 * 2) 0), iD (List.getD o ((i2 * 2) + 1) 0)] : List D).length = 2)) [(4, oV 3 0 k2 2), (9, rV 4 0), (46, oV 1 0 n 2), (47, uV n), (48, uV i2)] [(1, some (77, .ds (dI .i64 o))), (3, some (77, .ds (dI .i64 u))), (4, some (77, .ds [iD (List.getD o (i2 * 2) 0), iD (List.getD o ((i2 * 2) + 1) 0)]))] 5 ⟨rfl, zo, zo, (dI_lds .i64 o (i2 * 2) 2 zl09b0), rfl⟩ ?_
   refine y9s [.no, .no, .w, .no] ((-9223372036854775808) ≤ ((k2 : Int) - 1) ∧ ((k2 : Int) - 1) ≤ 9223372036854775807) [(4, oV 3 0 k2 2), (9, rV 4 0), (10, iV (↑k2 - 1)), (46, oV 1 0 n 2), (47, uV n), (48, uV i2)] ⟨by omega, by omega⟩ ?_
   by_cases hx6 : ((0 : Int) ≤ (((k2 : Nat) : Int) - 1))
   ·by_cases hx9 : (((List.getD o (i2 * 2) 0) - 1) ≤ (List.getD u (((k2 - 1) * 2) + 1) 0))
    ·have hx10 : 0 ≤ List.getD o (i2 * 2) 0 ∧ List.getD o (i2 * 2) 0 ≤ List.getD o (i2 * 2 + 1) 0 ∧ List.getD o (i2 * 2 + 1) 0 ≤ 2147483647 := hRo i2 zo
     have hx11 : 0 ≤ List.getD u ((k2 - 1) * 2 + 1) 0 ∧ List.getD u ((k2 - 1) * 2 + 1) 0 ≤ 2147483647 := hM.hi ho hRo zo
     refine y9s [.no, .b true, .no, .no, .no, .w, .no, .no, .n2 (k2 - 1) ((k2 - 1) * 2), .no, .d (D.lit (.int .i64 (List.getD u (((k2 - 1) * 2) + 1) 0))), .b true, .no] ((((0 : Int) ≤ ((k2 : Int) - 1))) ∧ ((-9223372036854775808) ≤ ((List.getD o (i2 * 2) 0) - 1) ∧ ((List.getD o (i2 * 2) 0) - 1) ≤ 9223372036854775807) ∧ ((((k2 : Int) - 1) : Int) = (((k2 - 1) : Nat) : Int)) ∧ ((k2 - 1) < k2) ∧ ((0 : Nat) + (k2 - 1) * 2 = ((k2 - 1) * 2)) ∧ ((dI .i64 u)[(((k2 - 1) * 2) + 1)]? = some (D.lit (.int .i64 (List.getD u (((k2 - 1) * 2) + 1) 0)))) ∧ ((((List.getD o (i2 * 2) 0) - 1) ≤ (List.getD u (((k2 - 1) * 2) + 1) 0)))) [(4, oV 3 0 k2 2), (9, rV 4 0), (10, iV (↑k2 - 1)), (46, oV 1 0 n 2), (47, uV n), (48, uV i2), (67, bV true)] ⟨zo, ⟨by omega, by omega⟩, (by first | rfl | omega), zo, zo, (dI_get _ _ _ zl09b0), zo⟩ ?_
     refine zt ?_
     refine y9g (nz9 4 [.n2 (k2 - 1) ((k2 - 1) * 2), .no, .d (D.lit (.int .i64 (List.getD u (((k2 - 1) * 2) + 1) 0))), .no, .no, .no, .n2 (k2 - 1) ((k2 - 1) * 2), .no, .ds (dI .i64 (List.set u (((k2 - 1) * 2) + 1) (max (List.getD u (((k2 - 1) * 2) + 1) 0) (List.getD o ((i2 * 2) + 1) 0))))]) (((((k2 : Int) - 1) : Int) = (((k2 - 1) : Nat) : Int)) ∧ ((k2 - 1) < k2) ∧ ((0 : Nat) + (k2 - 1) * 2 = ((k2 - 1) * 2)) ∧ ((dI .i64 u)[(((k2 - 1) * 2) + 1)]? = some (D.lit (.int .i64 (List.getD u (((k2 - 1) * 2) + 1) 0)))) ∧ ((((k2 : Int) - 1) : Int) = (((k2 - 1) : Nat) : Int)) ∧ ((k2 - 1) < k2) ∧ ((0 : Nat) + (k2 - 1) * 2 = ((k2 - 1) * 2)) ∧ ((((k2 - 1) * 2) + 1) + 1 ≤ (dI .i64 u).length) ∧ (updD (dI .i64 u) (((k2 - 1) * 2) + 1) [D.lit (.int .i64 (max (List.getD u (((k2 - 1) * 2) + 1) 0) (List.getD o ((i2 * 2) + 1) 0)))] = dI .i64 (List.set u (((k2 - 1) * 2) + 1) (max (List.getD u (((k2 - 1) * 2) + 1) 0) (List.getD o ((i2 * 2) + 1) 0))))) [(4, oV 3 0 k2 2), (46, oV 1 0 n 2), (47, uV n), (48, uV i2)] [(1, some (77, .ds (dI .i64 o))), (3, some (77, .ds (dI .i64 (List.set u (((k2 - 1) * 2) + 1) (max (List.getD u (((k2 - 1) * 2) + 1) 0) (List.getD o ((i2 * 2) + 1) 0))))))] 5 ⟨(by first | rfl | omega), zo, zo, (dI_get _ _ _ zl09b0), (by first | rfl | omega), zo, zo, zl09b0, (dI_set _ _ _ _)⟩ ?_
     refine y9h [.w, .no] ((-9223372036854775808) ≤ ((i2 : Int) + 1) ∧ ((i2 : Int) + 1) ≤ 9223372036854775807) [(4, oV 3 0 k2 2), (46, oV 1 0 n 2), (47, uV n), (48, iV (↑i2 + 1))] ⟨by omega, by omega⟩ ?_
     exact Rd.of ⟨(((i2 + 1) : Nat), (k2 : Nat), ((List.set u (((k2 - 1) * 2) + 1) (max (List.getD u (((k2 - 1) * 2) + 1) 0) (List.getD o ((i2 * 2) + 1) 0))) : List Int)), ⟨zl09b6, (by first | exact hM.new ho zo rfl rfl zo rfl | exact hM.join ho zo rfl rfl zo zo rfl rfl), zl09b1⟩⟩ [] (P := (q9n 0) ∧ (q9n k2) ∧ (q9n 0) ∧ (q9n n) ∧ (q9i (n : Int)) ∧ (((((i2 + 1) : Nat) : Int) : Int) = ((i2 : Int) + 1)) ∧ (q9d (dI .i64 o)) ∧ (q9d (dI .i64 (List.set u (((k2 - 1) * 2) + 1) (max (List.getD u (((k2 - 1) * 2) + 1) 0) (List.getD o ((i2 * 2) + 1) 0)))))) zk ⟨rfl, rfl, rfl, rfl, rfl, zl09b3, rfl, rfl⟩ (show n - (i2 + 1) < n - i2 from zl09b5)
    ·have hx12 : 0 ≤ List.getD o (i2 * 2) 0 ∧ List.getD o (i2 * 2) 0 ≤ List.getD o (i2 * 2 + 1) 0 ∧ List.getD o (i2 * 2 + 1) 0 ≤ 2147483647 := hRo i2 zo
     have hx13 : 0 ≤ List.getD u ((k2 - 1) * 2 + 1) 0 ∧ List.getD u ((k2 - 1) * 2 + 1) 0 ≤ 2147483647 := hM.hi ho hRo zo
     refine y9s [.no, .b true, .no, .no, .no, .w, .no, .no, .n2 (k2 - 1) ((k2 - 1) * 2), .no, .d (D.lit (.int .i64 (List.getD u (((k2 - 1) * 2) + 1) 0))), .b false, .no] ((((0 : Int) ≤ ((k2 : Int) - 1))) ∧ ((-9223372036854775808) ≤ ((List.getD o (i2 * 2) 0) - 1) ∧ ((List.getD o (i2 * 2) 0) - 1) ≤ 9223372036854775807) ∧ ((((k2 : Int) - 1) : Int) = (((k2 - 1) : Nat) : Int)) ∧ ((k2 - 1) < k2) ∧ ((0 : Nat) + (k2 - 1) * 2 = ((k2 - 1) * 2)) ∧ ((dI .i64 u)[(((k2 - 1) * 2) + 1)]? = some (D.lit (.int .i64 (List.getD u (((k2 - 1) * 2) + 1) 0)))) ∧ (¬ (((List.getD o (i2 * 2) 0) - 1) ≤ (List.getD u (((k2 - 1) * 2) + 1) 0)))) [(4, oV 3 0 k2 2), (9, rV 4 0), (10, iV (↑k2 - 1)), (46, oV 1 0 n 2), (47, uV n), (48, uV i2), (67, bV false)] ⟨zo, ⟨by omega, by omega⟩, (by first | rfl | omega), zo, zo, (dI_get _ _ _ zl09b0), zo⟩ ?_
     refine zf ?_
     refine y9g [.no, .no, .no, .ap none (k2 + 1) (dI .i64 (u ++ ([(List.getD o (i2 * 2) 0), (List.getD o ((i2 * 2) + 1) 0)] : List Int))), .no] (([iD (List.getD o (i2 * 2) 0), iD (List.getD o ((i2 * 2) + 1) 0)].length = 1 * 2) ∧ (((dI .i64 u) : List D).length = k2 * 2) ∧ ((k2 + 1) * 16 ≤ 140737488355328) ∧ (k2 + 1 = (k2 + 1)) ∧ (((dI .i64 u) : List D) ++ [iD (List.getD o (i2 * 2) 0), iD (List.getD o ((i2 * 2) + 1) 0)] = (dI .i64 (u ++ ([(List.getD o (i2 * 2) 0), (List.getD o ((i2 * 2) + 1) 0)] : List Int))))) [(4, oV 6 0 (k2 + 1) 2), (46, oV 1 0 n 2), (47, uV n), (48, uV i2)] [(1, some (77, .ds (dI .i64 o))), (6, some (77, .ds (dI .i64 (u ++ ([(List.getD o (i2 * 2) 0), (List.getD o ((i2 * 2) + 1) 0)] : List Int)))))] 7 ⟨zl09b0, zl09b0, zo, zo, (dI_app .i64 u ([(List.getD o (i2 * 2) 0), (List.getD o ((i2 * 2) + 1) 0)] : List Int))⟩ ?_
     refine y9h [.w, .no] ((-9223372036854775808) ≤ ((i2 : Int) + 1) ∧ ((i2 : Int) + 1) ≤ 9223372036854775807) [(4, oV 6 0 (k2 + 1) 2), (46, oV 1 0 n 2), (47, uV n), (48, iV (↑i2 + 1))] ⟨by omega, by omega⟩ ?_
     exact Rd.of ⟨(((i2 + 1) : Nat), ((k2 + 1) : Nat), ((u ++ ([(List.getD o (i2 * 2) 0), (List.getD o ((i2 * 2) + 1) 0)] : List Int)) : List Int)), ⟨zl09b6, (by first | exact hM.new ho zo rfl rfl zo rfl | exact hM.join ho zo rfl rfl zo zo rfl rfl), zl09b1⟩⟩ [(3, 6)] (P := (q9n 0) ∧ (q9n (k2 + 1)) ∧ (q9n 0) ∧ (q9n n) ∧ (q9i (n : Int)) ∧ (((((i2 + 1) : Nat) : Int) : Int) = ((i2 : Int) + 1)) ∧ (q9d (dI .i64 o)) ∧ (q9d (dI .i64 (u ++ ([(List.getD o (i2 * 2) 0), (List.getD o ((i2 * 2) + 1) 0)] : List Int))))) zk ⟨rfl, rfl, rfl, rfl, rfl, zl09b3, rfl, rfl⟩ (show n - (i2 + 1) < n - i2 from zl09b5)
   ·have hx14 : 0 ≤ List.getD o (i2 * 2) 0 ∧ List.getD o (i2 * 2) 0 ≤ List.getD o (i2 * 2 + 1) 0 ∧ List.getD o (i2 * 2 + 1) 0 ≤ 2147483647 := hRo i2 zo
    refine y9s [.no, .b false, .no, .no] (¬ ((0 : Int) ≤ ((k2 : Int) - 1))) [(4, oV 3 0 k2 2), (9, rV 4 0), (10, iV (↑k2 - 1)), (46, oV 1 0 n 2), (47, uV n), (48, uV i2), (67, bV false)] zo ?_
    refine zf ?_
    refine y9g [.no, .no, .no, .ap none (k2 + 1) (dI .i64 (u ++ ([(List.getD o (i2 * 2) 0), (List.getD o ((i2 * 2) + 1) 0)] : List Int))), .no] (([iD (List.getD o (i2 * 2) 0), iD (List.getD o ((i2 * 2) + 1) 0)].length = 1 * 2) ∧ (((dI .i64 u) : List D).length = k2 * 2) ∧ ((k2 + 1) * 16 ≤ 140737488355328) ∧ (k2 + 1 = (k2 + 1)) ∧ (((dI .i64 u) : List D) ++ [iD (List.getD o (i2 * 2) 0), iD (List.getD o ((i2 * 2) + 1) 0)] = (dI .i64 (u ++ ([(List.getD o (i2 * 2) 0), (List.getD o ((i2 * 2) + 1) 0)] : List Int))))) [(4, oV 6 0 (k2 + 1) 2), (46, oV 1 0 n 2), (47, uV n), (48, uV i2)] [(1, some (77, .ds (dI .i64 o))), (6, some (77, .ds (dI .i64 (u ++ ([(List.getD o (i2 * 2) 0), (List.getD o ((i2 * 2) + 1) 0)] : List Int)))))] 7 ⟨zl09b0, zl09b0, zo, zo, (dI_app .i64 u ([(List.getD o (i2 * 2) 0), (List.getD o ((i2 * 2) + 1) 0)] : List Int))⟩ ?_
    refine y9h [.w, .no] ((-9223372036854775808) ≤ ((i2 : Int) + 1) ∧ ((i2 : Int) + 1) ≤ 9223372036854775807) [(4, oV 6 0 (k2 + 1) 2), (46, oV 1 0 n 2), (47, uV n), (48, iV (↑i2 + 1))] ⟨by omega, by omega⟩ ?_
    exact Rd.of ⟨(((i2 + 1) : Nat), ((k2 + 1) : Nat), ((u ++ ([(List.getD o (i2 * 2) 0), (List.getD o ((i2 * 2) + 1) 0)] : List Int)) : List Int)), ⟨zl09b6, (by first | exact hM.new ho zo rfl rfl zo rfl | exact hM.join ho zo rfl rfl zo zo rfl rfl), zl09b1⟩⟩ [(3, 6)] (P := (q9n 0) ∧ (q9n (k2 + 1)) ∧ (q9n 0) ∧ (q9n n) ∧ (q9i (n : Int)) ∧ (((((i2 + 1) : Nat) : Int) : Int) = ((i2 : Int) + 1)) ∧ (q9d (dI .i64 o)) ∧ (q9d (dI .i64 (u ++ ([(List.getD o (i2 * 2) 0), (List.getD o ((i2 * 2) + 1) 0)] : List Int))))) zk ⟨rfl, rfl, rfl, rfl, rfl, zl09b3, rfl, rfl⟩ (show n - (i2 + 1) < n - i2 from zl09b5)
  ·refine y9r [.b false] (¬ ((i2 : Int) < (n : Int))) [(4, oV 3 0 k2 2), (46, oV 1 0 n 2), (47, uV n), (48, uV i2), (49, bV false)] [(1, some (77, .ds (dI .i64 o))), (3, some (77, .ds (dI .i64 u)))] 4 zo ?_
   refine AW.seq ?_
   refine zf ?_
   refine AW.exit ?_
   refine y9r [.no, .no] True [(2, oV 3 0 k2 2)] [(3, some (77, .ds (dI .i64 u)))] 4 trivial ?_
   obtain ⟨hz1, hz2⟩ := jd_fin hl hR ho (hS.all hl zo) hS.sr (by have h9 := hM; rw [show i2 = n by omega] at h9; exact h9)
   refine AW.freeze 3 (l' := [(2, sV .i64 u k2)]) (g' := []) rfl (FzS.cons rfl (.e (.c (@FzC.own 3 ((dI .i64 u) : List D) 0 k2 2 true ((dI .i64 u) : List D) (by rw [List.drop_zero, List.take_of_length_le (by first | omega | (simp only [bsD_len, dI_len, List.length_append, List.length_cons, List.length_nil, List.length_take, List.length_drop, List.length_replicate, List.length_set, List.length_map, List.length_reverse, Nat.mul_one] <;> omega))]) zl09b0))) FzS.nil) FzG.nil ?_
   refine AW.ret ?_
   exact EndP.of (.inr rfl) [] (P := (((dI .i64 (jdS l)) : List D) = (dI .i64 u)) ∧ (((jdN l) : Nat) = k2)) zk ⟨(by first | rfl | exact congrArg _ hz1.symm), zl09b4⟩
theorem U_Clone_1 (l : List Int) (n : Nat) (hl : List.length l = n * 2) (hb : n ≤ 1000000) (h1 : 1 ≤ n) : Fun 127 [.c (.d (D.sl (dI .i64 l) n))] (toG []) 0 (oV 0 0 n 2) (toG [(0, some (77, .ds (dI .i64 l)))]) 1 := by
 refine Fun.mk (n := 8) Tryz.func127 rfl rfl (Nat.le_of_ble_eq_true rfl) ?_
 intro cx hcx
 refine y9r [.no] True [(0, sV .i64 l n)] [] 0 trivial ?_
 refine AW.seq ?_
 refine y9s [.no, .no] (1 ≤ n) [(0, sV .i64 l n), (4, bV false)] zo ?_
 refine zfs ?_
 refine y9r [.no, .no, .ap none (0 + n) (dI .i64 l), .no] (((dI .i64 l).length = n * 2) ∧ ((([] : List D) : List D).length = 0 * 2) ∧ ((0 + n) * 16 ≤ 140737488355328) ∧ ((0 : Nat) + n = (0 + n)) ∧ ((([] : List D) : List D) ++ (dI .i64 l) = (dI .i64 l))) [(2, oV 1 0 (0 + n) 2)] [(1, some (77, .ds (dI .i64 l)))] 2 ⟨zl09b0, zl09b0, zo, zo, rfl⟩ ?_
 refine AW.ret ?_
 exact EndP.of (.inr rfl) [(0, 1)] (P := (q9n 0) ∧ ((n : Nat) = (0 + n)) ∧ (q9d (dI .i64 l))) zk ⟨rfl, zl09b4, rfl⟩
theorem U_Clone_2   : Fun 127 [.c (.d (D.lit (.slice none 0 0)))] (toG []) 0 (oV 0 0 0 2) (toG [(0, some (77, .ds ([] : List D)))]) 1 := by
 refine Fun.mk (n := 8) Tryz.func127 rfl rfl (Nat.le_of_ble_eq_true rfl) ?_
 intro cx hcx
 refine y9r [.no] True [(0, nV)] [] 0 trivial ?_
 refine AW.seq ?_
 refine y9s [.no, .no] True [(0, nV), (4, bV true)] trivial ?_
 refine zt ?_
 refine y9s [.no] True [(2, nV)] trivial ?_
 refine AW.adoptS 2 2 77 rfl ?_
 refine AW.ret ?_
 exact EndP.of (.inr rfl) [] (P := (q9n 0) ∧ (q9n 0) ∧ (q9d ([] : List D))) zk ⟨rfl, rfl, rfl⟩
theorem U_Clone_3 (a : Addr) (cap : Nat) (hm : cap ≤ maxLen) : Fun 127 [.c (.d (D.lit (.slice (some a) 0 cap)))] (toG []) 0 (oV 0 0 0 2) (toG [(0, some (77, .ds ([] : List D)))]) 1 := by
 refine Fun.mk (n := 8) Tryz.func127 rfl rfl (Nat.le_of_ble_eq_true rfl) ?_
 intro cx hcx
 refine y9r [.no] True [(0, .e (.c (.d (D.lit (.slice (some a) 0 cap)))))] [] 0 trivial ?_
 refine AW.seq ?_
 refine y9s [.no, .no] True [(0, .e (.c (.d (D.lit (.slice (some a) 0 cap))))), (4, bV false)] trivial ?_
 refine zfs ?_
 refine AW.relit 0 hm (fun h9 => by cases h9) rfl ?_
 refine y9r [.no, .no, .ap none 0 ([] : List D), .no] ((([] : List D).length = 0 * 2) ∧ ((([] : List D) : List D).length = 0 * 2) ∧ ((0 + 0) * 16 ≤ 140737488355328) ∧ ((0 : Nat) + 0 = 0) ∧ ((([] : List D) : List D) ++ ([] : List D) = ([] : List D))) [(2, oV 1 0 0 2)] [(1, some (77, .ds ([] : List D)))] 2 ⟨zl09b0, zl09b0, zo, zo, rfl⟩ ?_
 refine AW.ret ?_
 exact EndP.of (.inr rfl) [(0, 1)] (P := (q9n 0) ∧ (q9n 0) ∧ (q9d ([] : List D))) zk ⟨rfl, rfl, rfl⟩
theorem U_Clone (l : List Int) (n : Nat) (hl : List.length l = n * 2) (hb : n ≤ 1000000) : Fun 127 [.c (.d (D.sl (dI .i64 l) n))] (toG []) 0 (oV 0 0 n 2) (toG [(0, some (77, .ds (dI .i64 l)))]) 1 := by
 by_cases h1 : 1 ≤ n
 ·exact U_Clone_1 l n hl hb h1
 ·obtain rfl : n = 0 := by omega
  obtain rfl : l = [] := List.eq_nil_of_length_eq_zero hl
  exact Fun.nil0 U_Clone_2 (fun a cap hm => U_Clone_3 a cap hm)
theorem U_rMake (l : List Int) (n : Nat) (hl : List.length l = n * 2) (hb : n ≤ 1000000) : Fun 143 [.c (.d (D.sl (dI .i64 l) n))] (toG []) 0 (.tup [.agg [.d (D.sl (dI .i64 (mkL l n)) (mkN l n))], iE (mkE l n)]) (toG []) 0 := by
 refine Fun.mk (n := 39) Tryz.func143 rfl rfl (Nat.le_of_ble_eq_true rfl) ?_
 intro cx hcx
 refine y9r [.no, .no] True [(0, sV .i64 l n), (2, rV 0 0)] [(0, some (56, .ds [nl9]))] 1 trivial ?_
 refine AW.seq ?_
 refine y9s [.no, .no, .no] True [(0, sV .i64 l n), (2, rV 0 0), (7, sV .i64 l n), (8, uV n), (9, iV 0)] trivial ?_
 refine AW.block ?_
 refine AW.loopE 0 hcx (fun (x : {x : Nat // match x with | k => (k ≤ n) ∧ (∀ j, j < k → rgE l j = true)}) => match x with | ⟨k, _⟩ => (⟨[(0, sV .i64 l n), (2, rV 0 0), (7, sV .i64 l n), (8, uV n), (9, uV k)], [(0, some (56, .ds [nl9]))], 1⟩ : ES)) (fun x => match x with | ⟨k, _⟩ => n - k) ⟨(0 : Nat), ⟨zl09b6, (fun j hj => absurd hj (Nat.not_lt_zero j))⟩⟩ [] (P := (q9d (dI .i64 l)) ∧ (q9n n) ∧ (q9n 0) ∧ (q9d (dI .i64 l)) ∧ (q9n n) ∧ (q9i (n : Int)) ∧ (q9i 0) ∧ (q9d [nl9])) zk ⟨rfl, rfl, rfl, rfl, rfl, rfl, rfl, rfl⟩ ?_
 rintro ⟨k, hinv0⟩
 obtain ⟨hk, ha⟩ : (k ≤ n) ∧ (∀ j, j < k → rgE l j = true) := hinv0
 refine AW.es (l := [(0, sV .i64 l n), (2, rV 0 0), (7, sV .i64 l n), (8, uV n), (9, uV k)]) (g := [(0, some (56, .ds [nl9]))]) (nx := 1) rfl rfl rfl ?_
 by_cases hx1 : (((k : Nat) : Int) < ((n : Nat) : Int))
 ·refine y9r [.b true] (((k : Int) < (n : Int))) [(0, sV .i64 l n), (2, rV 0 0), (7, sV .i64 l n), (8, uV n), (9, uV k), (10, bV true)] [(0, some (56, .ds [nl9]))] 1 zo ?_
  refine AW.seq ?_
  refine zts ?_
  refine AW.seq ?_
  refine AW.block ?_
  refine y9r [.n k, .ds [iD (List.getD l (k * 2) 0), iD (List.getD l ((k * 2) + 1) 0)], .no, .no] ((q9i (k : Int)) ∧ (k < n) ∧ (List.take 2 (List.drop (k * 2) (dI .i64 l)) = [iD (List.getD l (k * 2) 0), iD (List.getD l ((k * 2) + 1) 0)]) ∧ (([iD (List.getD l (k * 2) 0), iD (List.getD l ((k * 2) + 1) 0)] : List D).length = 2)) [(0, sV .i64 l n), (2, rV 0 0), (5, rV 1 0), (7, sV .i64 l n), (8, uV n), (9, uV k)] [(0, some (56, .ds [nl9])), (1, some (77, .ds [iD (List.getD l (k * 2) 0), iD (List.getD l ((k * 2) + 1) 0)]))] 2 ⟨rfl, zo, (dI_lds .i64 l (k * 2) 2 zl09b0), rfl⟩ ?_
  by_cases hx2 : ((List.getD l (k * 2) 0) < 0)
  ·refine y9r (.no :: .no :: .b true :: nz9 4 []) (((List.getD l (k * 2) 0) < 0)) [(0, sV .i64 l n), (2, rV 0 0), (7, sV .i64 l n), (8, uV n), (9, uV k), (27, bV true)] [(0, some (56, .ds [nl9]))] 2 zo ?_
   refine zt ?_
   refine y9s [.no, .no, .no] True [(2, rV 0 0), (3, iV 2)] trivial ?_
   obtain ⟨hz1, hz2, hz3⟩ := mk_bad (l := l) (n := n) (rg_f (k := k) zo (decide_eq_false zo))
   refine AW.rel (l' := [(2, rV 0 0), (3, iV 2)]) (g' := [(0, some (56, .ds [D.sl ([] : List D) 0]))]) (NlS.cons rfl (.same _) (NlS.cons rfl (.same _) NlS.nil)) (NlG.to (bc := .ds [nl9]) rfl (NlL.cons (.nil) NlL.nil) NlG.nil) ?_
   refine AW.ret ?_
   exact EndP.of (.inr rfl) [] (P := (((dI .i64 (mkL l n)) : List D) = ([] : List D)) ∧ (((mkN l n) : Nat) = 0) ∧ (((mkE l n) : Int) = 2)) zk ⟨(by first | (rw [hz2]; done) | (rw [hz2]; rfl) | (rw [hz2, hz0]; done) | (rw [hz2, hz0]; rfl)), zl09b4, zl09b4⟩
  ·by_cases hx3 : ((List.getD l ((k * 2) + 1) 0) < (List.getD l (k * 2) 0))
   ·refine y9r (.no :: .no :: .b false :: nz9 5 [.b true, .no, .no, .no]) ((¬ ((List.getD l (k * 2) 0) < 0)) ∧ (((List.getD l ((k * 2) + 1) 0) < (List.getD l (k * 2) 0)))) [(0, sV .i64 l n), (2, rV 0 0), (7, sV .i64 l n), (8, uV n), (9, uV k), (27, bV true)] [(0, some (56, .ds [nl9]))] 2 ⟨zo, zo⟩ ?_
    refine zt ?_
    refine y9s [.no, .no, .no] True [(2, rV 0 0), (3, iV 2)] trivial ?_
    obtain ⟨hz1, hz2, hz3⟩ := mk_bad (l := l) (n := n) (rg_f (k := k) zo (decide_eq_false zo))
    refine AW.rel (l' := [(2, rV 0 0), (3, iV 2)]) (g' := [(0, some (56, .ds [D.sl ([] : List D) 0]))]) (NlS.cons rfl (.same _) (NlS.cons rfl (.same _) NlS.nil)) (NlG.to (bc := .ds [nl9]) rfl (NlL.cons (.nil) NlL.nil) NlG.nil) ?_
    refine AW.ret ?_
    exact EndP.of (.inr rfl) [] (P := (((dI .i64 (mkL l n)) : List D) = ([] : List D)) ∧ (((mkN l n) : Nat) = 0) ∧ (((mkE l n) : Int) = 2)) zk ⟨(by first | (rw [hz2]; done) | (rw [hz2]; rfl) | (rw [hz2, hz0]; done) | (rw [hz2, hz0]; rfl)), zl09b4, zl09b4⟩
   ·by_cases hx4 : ((2147483647 : Int) < (List.getD l ((k * 2) + 1) 0))
    ·refine y9r (.no :: .no :: .b false :: nz9 5 (.b false :: nz9 4 [.b true, .no])) ((¬ ((List.getD l (k * 2) 0) < 0)) ∧ (¬ ((List.getD l ((k * 2) + 1) 0) < (List.getD l (k * 2) 0))) ∧ (((2147483647 : Int) < (List.getD l ((k * 2) + 1) 0)))) [(0, sV .i64 l n), (2, rV 0 0), (7, sV .i64 l n), (8, uV n), (9, uV k), (27, bV true)] [(0, some (56, .ds [nl9]))] 2 ⟨zo, zo, zo⟩ ?_
     refine zt ?_
     refine y9s [.no, .no, .no] True [(2, rV 0 0), (3, iV 2)] trivial ?_
     obtain ⟨hz1, hz2, hz3⟩ := mk_bad (l := l) (n := n) (rg_f (k := k) zo (decide_eq_false zo))
     refine AW.rel (l' := [(2, rV 0 0), (3, iV 2)]) (g' := [(0, some (56, .ds [D.sl ([] : List D) 0]))]) (NlS.cons rfl (.same _) (NlS.cons rfl (.same _) NlS.nil)) (NlG.to (bc := .ds [nl9]) rfl (NlL.cons (.nil) NlL.nil) NlG.nil) ?_
     refine AW.ret ?_
     exact EndP.of (.inr rfl) [] (P := (((dI .i64 (mkL l n)) : List D) = ([] : List D)) ∧ (((mkN l n) : Nat) = 0) ∧ (((mkE l n) : Int) = 2)) zk ⟨(by first | (rw [hz2]; done) | (rw [hz2]; rfl) | (rw [hz2, hz0]; done) | (rw [hz2, hz0]; rfl)), zl09b4, zl09b4⟩
    ·refine y9r (.no :: .no :: .b false :: nz9 5 (.b false :: nz9 4 [.b false, .no])) ((¬ ((List.getD l (k * 2) 0) < 0)) ∧ (¬ ((List.getD l ((k * 2) + 1) 0) < (List.getD l (k * 2) 0))) ∧ (¬ ((2147483647 : Int) < (List.getD l ((k * 2) + 1) 0)))) [(0, sV .i64 l n), (2, rV 0 0), (7, sV .i64 l n), (8, uV n), (9, uV k), (27, bV false)] [(0, some (56, .ds [nl9]))] 2 ⟨zo, zo, zo⟩ ?_
     refine zfs ?_
     refine y9h [.w, .no] ((-9223372036854775808) ≤ ((k : Int) + 1) ∧ ((k : Int) + 1) ≤ 9223372036854775807) [(0, sV .i64 l n), (2, rV 0 0), (7, sV .i64 l n), (8, uV n), (9, iV (↑k + 1))] ⟨by omega, by omega⟩ ?_
     exact Rd.of ⟨((k + 1) : Nat), ⟨zl09b6, (fun j hj => (Nat.lt_succ_iff_lt_or_eq.1 hj).elim (ha j) (fun e9 => by subst e9; exact decide_eq_true zo))⟩⟩ [] (P := (q9d (dI .i64 l)) ∧ (q9n n) ∧ (q9n 0) ∧ (q9d (dI .i64 l)) ∧ (q9n n) ∧ (q9i (n : Int)) ∧ (((((k + 1) : Nat) : Int) : Int) = ((k : Int) + 1)) ∧ (q9d [nl9])) zk ⟨rfl, rfl, rfl, rfl, rfl, rfl, zl09b3, rfl⟩ (show n - (k + 1) < n - k from zl09b5)
 ·refine y9r [.b false] (¬ ((k : Int) < (n : Int))) [(0, sV .i64 l n), (2, rV 0 0), (7, sV .i64 l n), (8, uV n), (9, uV k), (10, bV false)] [(0, some (56, .ds [nl9]))] 1 zo ?_
  refine AW.seq ?_
  refine zf ?_
  refine AW.exit ?_
  have hR : RG l n := rg_iff.1 (rg_t (fun j hj => ha j (by omega)))
  have hx5 : ((List.length (jdS l)) = ((jdN l) * 2)) := jd_len l
  have hx6 : ((jdN l) ≤ n) := jd_le (zo) ((by first | omega | with_reducible assumption | (simp only [bsD_len, List.length_append, List.length_cons, List.length_nil, List.length_take, List.length_drop, List.length_replicate, List.length_set] <;> omega) | rfl | assumption))
  refine y9r [.no, .call [] (sV .i64 (jdS l) (jdN l)) [] 0 [] none, .no, .no, .no] _ [(2, rV 0 0), (6, rV 1 0)] [(0, some (56, .ds [nl9])), (1, some (56, .ds [dl (jdS l) (jdN l)]))] 2 (U_joined l n zo zo (by first | omega | with_reducible assumption | (simp only [bsD_len, List.length_append, List.length_cons, List.length_nil, List.length_take, List.length_drop, List.length_replicate, List.length_set] <;> omega) | rfl | assumption)) ?_
  refine AW.seq ?_
  by_cases hx7 : ((64 : Int) < (((jdN l) : Nat) : Int))
  ·refine y9s [.no, .no, .no, .b true] (((64 : Int) < (jdN l : Int))) [(2, rV 0 0), (6, rV 1 0), (36, bV true)] zo ?_
   refine zt ?_
   refine y9r [.no, .no, .no] True [(2, rV 0 0), (3, iV 3)] [(0, some (56, .ds [nl9]))] 2 trivial ?_
   obtain ⟨hz1, hz2, hz3⟩ := mk_big (rg_iff.2 hR) zo
   refine AW.rel (l' := [(2, rV 0 0), (3, iV 3)]) (g' := [(0, some (56, .ds [D.sl ([] : List D) 0]))]) (NlS.cons rfl (.same _) (NlS.cons rfl (.same _) NlS.nil)) (NlG.to (bc := .ds [nl9]) rfl (NlL.cons (.nil) NlL.nil) NlG.nil) ?_
   refine AW.ret ?_
   exact EndP.of (.inr rfl) [] (P := (((dI .i64 (mkL l n)) : List D) = ([] : List D)) ∧ (((mkN l n) : Nat) = 0) ∧ (((mkE l n) : Int) = 3)) zk ⟨(by first | (rw [hz2]; done) | (rw [hz2]; rfl) | (rw [hz2, hz0]; done) | (rw [hz2, hz0]; rfl)), zl09b4, zl09b4⟩
  ·refine y9s [.no, .no, .no, .b false] (¬ ((64 : Int) < (jdN l : Int))) [(2, rV 0 0), (6, rV 1 0), (36, bV false)] zo ?_
   refine zfs ?_
   refine y9r [.no, .no, .no] True [(2, rV 0 0), (3, iV 0)] [(0, some (56, .ds [dl (jdS l) (jdN l)]))] 2 trivial ?_
   obtain ⟨hz1, hz2, hz3⟩ := mk_good (rg_iff.2 hR) zo
   refine AW.ret ?_
   exact EndP.of (.inr rfl) [] (P := (((dI .i64 (mkL l n)) : List D) = (dI .i64 (jdS l))) ∧ (((mkN l n) : Nat) = (jdN l)) ∧ (((mkE l n) : Int) = 0)) zk ⟨(by first | (rw [hz2]; done) | (rw [hz2]; rfl) | (rw [hz2, hz0]; done) | (rw [hz2, hz0]; rfl)), zl09b4, zl09b4⟩
end Go.Proofs.YtcfmjpnffembpaaGreat
