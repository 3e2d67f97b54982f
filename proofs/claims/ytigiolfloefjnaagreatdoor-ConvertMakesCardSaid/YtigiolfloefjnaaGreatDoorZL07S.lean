/- Matrices: what the laws come to. No statement is proved here. -/
import Derived.Test.YtigiolfloefjnaaGreatDoorZL07
import Derived.Test.YtigiolfloefjnaaGreatDoorZLMade
import Derived.Test.YtigiolfloefjnaaGreatDoorZAmD
namespace Go.Proofs.YtigiolfloefjnaaGreatDoor
open Go.ChangeShapes Go.WideShapes Go.ChangeAt Go.RowKit
set_option linter.unusedVariables false
set_option linter.unusedSimpArgs false
set_option maxHeartbeats 4000000
set_option maxRecDepth 100000
def idxK (l : List Int) (v : Int) : Nat → Int
 | 0 => -1
 | k + 1 => if 0 ≤ idxK l v k then idxK l v k else if List.getD l k 0 = v then (k : Int) else -1
theorem idxK_miss {l : List Int} {v : Int} {k : Nat} (h : idxK l v k = -1) (h2 : ¬ List.getD l k 0 = v) : idxK l v (k + 1) = -1 := by
 show (if 0 ≤ idxK l v k then _ else _) = _
 rw [if_neg (by omega), if_neg h2]
theorem idxK_hit {l : List Int} {v : Int} {k : Nat} (h : idxK l v k = -1) (h2 : List.getD l k 0 = v) : ∀ n, k < n → idxK l v n = (k : Int)
 | n + 1, hn => by
  by_cases hk : k = n
  ·subst hk
   show (if 0 ≤ idxK l v k then _ else _) = _
   rw [if_neg (by omega), if_pos h2]
  ·have := idxK_hit h h2 n (by omega)
   show (if 0 ≤ idxK l v n then _ else _) = _
   rw [if_pos (by omega)]; exact this
theorem zl07s0 {p : Prop} (h : p := by first | omega | (rw [dI_len]; omega) | (simp [dI_len] <;> omega) | rfl) : p := h
theorem C_sIndex (l : List Int) (n : Nat) (v : Int) (hn : List.length l = n) (hm : n ≤ 1000000) : Fun 100 [.c (.d (D.sl (dI .i64 l) n)), iE v] (toG []) 0 (iV (idxK l v n)) (toG []) 0 := by
 refine Fun.mk (n := 19) Tryz.func100 rfl rfl (Nat.le_of_ble_eq_true rfl) ?_
 intro cx hcx
 refine zr [.no] [0, 1] [] True [(0, sV .i64 l n), (1, iV v)] [] 0 trivial ?_
 refine AW.seq ?_
 refine zr [.no, .no, .no] [0, 1, 7, 8] [] True [(0, sV .i64 l n), (1, iV v), (7, uV n), (8, iV 0)] [] 0 trivial ?_
 refine AW.block ?_
 refine AW.loopE 0 hcx (fun (x : {x : Nat // match x with | k => (k ≤ n) ∧ (idxK l v k = -1)}) => match x with | ⟨k, _⟩ => (⟨[(0, sV .i64 l n), (1, iV v), (7, uV n), (8, uV k)], [], 0⟩ : ES)) (fun (x : {x : Nat // match x with | k => (k ≤ n) ∧ (idxK l v k = -1)}) => match x with | ⟨k, _⟩ => n - k) ⟨(0 : Nat), (show ((0 : Nat) ≤ n) ∧ (idxK l v (0 : Nat) = -1) from ⟨(by first | omega | assumption | simp), rfl⟩)⟩ [] (P := (((dI .i64 l) : List D) = (dI .i64 l)) ∧ ((n : Nat) = n) ∧ ((v : Int) = v) ∧ ((((n : Nat) : Int) : Int) = ((n : Nat) : Int)) ∧ ((0 : Int) = 0)) zk ⟨rfl, rfl, rfl, rfl, rfl⟩ ?_
 rintro ⟨k, hinv0⟩
 obtain ⟨hk, hi⟩ : (k ≤ n) ∧ (idxK l v k = -1) := hinv0
 refine AW.es (l := [(0, sV .i64 l n), (1, iV v), (7, uV n), (8, uV k)]) (g := []) (nx := 0) rfl rfl rfl ?_
 by_cases hx1 : (((k : Nat) : Int) < ((n : Nat) : Int))
 ·refine zr [.b true] [0, 1, 7, 8, 9] [] ((((k : Nat) : Int) < ((n : Nat) : Int))) [(0, sV .i64 l n), (1, iV v), (7, uV n), (8, uV k), (9, bV true)] [] 0 zo ?_
  refine AW.seq ?_
  refine zts ?_
  refine AW.seq ?_
  refine AW.block ?_
  refine zr [.no, .no] [0, 1, 5, 7, 8] [] True [(0, sV .i64 l n), (1, iV v), (5, uV k), (7, uV n), (8, uV k)] [] 0 trivial ?_
  by_cases hx2 : (v = (List.getD l k 0))
  ·refine zr [.no, .no, .no, .n k, .d (D.lit (.int .i64 (List.getD l k 0))), .b true] [0, 1, 5, 7, 8, 16] [] (((((k : Nat) : Int) : Int) = ((k : Nat) : Int)) ∧ (k < n) ∧ ((List.drop k (dI .i64 l))[0]? = some (D.lit (.int .i64 (List.getD l k 0)))) ∧ ((v = (List.getD l k 0)))) [(0, sV .i64 l n), (1, iV v), (5, uV k), (7, uV n), (8, uV k), (16, bV true)] [] 0 ⟨rfl, zo, (dI_at _ _ _ zl07s0), zo⟩ ?_
   refine zt ?_
   refine zr [.no, .no] [4] [] True [(4, uV k)] [] 0 trivial ?_
   refine AW.ret ?_
   exact EndP.of (.inr rfl) [] (P := (((idxK l v n) : Int) = ((k : Nat) : Int))) zk (by first | rfl | exact idxK_hit hi zo n zo | (rw [show n = k by omega]; exact hi))
  ·refine zr [.no, .no, .no, .n k, .d (D.lit (.int .i64 (List.getD l k 0))), .b false] [0, 1, 5, 7, 8, 16] [] (((((k : Nat) : Int) : Int) = ((k : Nat) : Int)) ∧ (k < n) ∧ ((List.drop k (dI .i64 l))[0]? = some (D.lit (.int .i64 (List.getD l k 0)))) ∧ (¬ (v = (List.getD l k 0)))) [(0, sV .i64 l n), (1, iV v), (5, uV k), (7, uV n), (8, uV k), (16, bV false)] [] 0 ⟨rfl, zo, (dI_at _ _ _ zl07s0), zo⟩ ?_
   refine zfs ?_
   refine zg [.w, .no] [0, 1, 7, 8] [] ((-9223372036854775808) ≤ (((k : Nat) : Int) + 1) ∧ (((k : Nat) : Int) + 1) ≤ 9223372036854775807) [(0, sV .i64 l n), (1, iV v), (7, uV n), (8, iV (↑k + 1))] [] 0 ⟨by omega, by omega⟩ ?_
   exact Rd.of ⟨((k + 1) : Nat), (show ((k + 1) ≤ n) ∧ (idxK l v (k + 1) = -1) from ⟨(by first | omega | assumption | simp), (idxK_miss hi zo)⟩)⟩ [] (P := (((dI .i64 l) : List D) = (dI .i64 l)) ∧ ((n : Nat) = n) ∧ ((v : Int) = v) ∧ ((((n : Nat) : Int) : Int) = ((n : Nat) : Int)) ∧ (((((k + 1) : Nat) : Int) : Int) = (((k : Nat) : Int) + 1))) zk ⟨rfl, rfl, rfl, rfl, (by first | rfl | omega | assumption | (simp; done) | (simp; omega))⟩ (show n - (k + 1) < n - k from (by first | omega | (show _ < _; simp; omega)))
 ·refine zr [.b false] [0, 1, 7, 8, 9] [] (¬ (((k : Nat) : Int) < ((n : Nat) : Int))) [(0, sV .i64 l n), (1, iV v), (7, uV n), (8, uV k), (9, bV false)] [] 0 zo ?_
  refine AW.seq ?_
  refine zf ?_
  refine AW.exit ?_
  refine zr [.no] [4] [] True [(4, iV (-1))] [] 0 trivial ?_
  refine AW.ret ?_
  exact EndP.of (.inr rfl) [] (P := (((idxK l v n) : Int) = (-1))) zk (by first | rfl | exact idxK_hit hi zo n zo | (rw [show n = k by omega]; exact hi))
theorem C_Index (l : List Int) (n : Nat) (v : Int) (hn : List.length l = n) (hm : n ≤ 1000000) : Fun 56 [.c (.d (D.sl (dI .i64 l) n)), iE v] (toG []) 0 (iV (idxK l v n)) (toG []) 0 := by
 refine Fun.mk (n := 8) Tryz.func56 rfl rfl (Nat.le_of_ble_eq_true rfl) ?_
 intro cx hcx
 refine zr [.no] [0, 1] [] True [(0, sV .i64 l n), (1, iV v)] [] 0 trivial ?_
 refine zr [.no, .no, .call [] (iV (idxK l v n)) [] 0 [] none, .no] [4] [] _ [(4, iV (idxK l v n))] [] 0 (C_sIndex l n v zo zo) ?_
 refine AW.ret ?_
 exact EndP.of (.inr rfl) [] (P := (((idxK l v n) : Int) = (idxK l v n))) zk rfl
theorem C_isPos (n : Int)  : Fun 75 [iE n] (toG []) 0 (.e (.c (.d (D.lit (.bool (decide (1 ≤ n ∧ n ≤ 8))))))) (toG []) 0 := by
 refine Fun.mk (n := 9) Tryz.func75 rfl rfl (Nat.le_of_ble_eq_true rfl) ?_
 intro cx hcx
 refine zr [.no] [0] [] True [(0, iV n)] [] 0 trivial ?_
 by_cases hx1 : ((1 : Int) ≤ n)
 ·by_cases hx2 : (n ≤ 8)
  ·refine zr [.no, .b true, .no, .no, .b true, .no, .no] [2] [] ((((1 : Int) ≤ n)) ∧ ((n ≤ 8))) [(2, bV true)] [] 0 ⟨zo, zo⟩ ?_
   refine AW.ret ?_
   exact EndP.of (.inr rfl) [] (P := ((decide (1 ≤ n ∧ n ≤ 8)) = true)) zk (by first | exact decide_eq_true zo | exact decide_eq_false zo)
  ·refine zr [.no, .b true, .no, .no, .b false, .no, .no] [2] [] ((((1 : Int) ≤ n)) ∧ (¬ (n ≤ 8))) [(2, bV false)] [] 0 ⟨zo, zo⟩ ?_
   refine AW.ret ?_
   exact EndP.of (.inr rfl) [] (P := ((decide (1 ≤ n ∧ n ≤ 8)) = false)) zk (by first | exact decide_eq_true zo | exact decide_eq_false zo)
 ·refine zr [.no, .b false, .no, .no, .no] [2] [] (¬ ((1 : Int) ≤ n)) [(2, bV false)] [] 0 zo ?_
  refine AW.ret ?_
  exact EndP.of (.inr rfl) [] (P := ((decide (1 ≤ n ∧ n ≤ 8)) = false)) zk (by first | exact decide_eq_true zo | exact decide_eq_false zo)
theorem C_Same6 (l m : List Int) (n k : Nat) (hn : List.length l = n) (hk : List.length m = k) (hb : n ≤ 100000000000000) (hb2 : k ≤ 100000000000000) : Fun 67 [.c (.d (D.sl (dI .i64 l) n)), .c (.d (D.sl (dI .i64 m) k))] (toG []) 0 (.e (.c (.d (D.lit (.bool (sameL l m)))))) (toG []) 0 := by
 refine Fun.mk (n := 26) Tryz.func67 rfl rfl (Nat.le_of_ble_eq_true rfl) ?_
 intro cx hcx
 refine zr [.no] [0, 1] [] True [(0, sV .i64 l n), (1, sV .i64 m k)] [] 0 trivial ?_
 refine AW.seq ?_
 by_cases hx1 : (((n : Nat) : Int) ≠ ((k : Nat) : Int))
 ·refine zr [.no, .no, .no, .no, .b true] [0, 1, 10] [] ((((n : Nat) : Int) ≠ ((k : Nat) : Int))) [(0, sV .i64 l n), (1, sV .i64 m k), (10, bV true)] [] 0 zo ?_
  refine zt ?_
  refine zr [.no] [4] [] True [(4, bV false)] [] 0 trivial ?_
  refine AW.ret ?_
  exact EndP.of (.inr rfl) [] (P := ((sameL l m) = false)) zk (by first | exact sameL_n zo | exact sameL_x (by assumption) | exact sameL_y zo (fun j hj => ha j zo))
 ·refine zr [.no, .no, .no, .no, .b false] [0, 1, 10] [] (¬ (((n : Nat) : Int) ≠ ((k : Nat) : Int))) [(0, sV .i64 l n), (1, sV .i64 m k), (10, bV false)] [] 0 zo ?_
  refine zfs ?_
  refine AW.seq ?_
  refine zr [.no, .no, .no] [0, 1, 12, 13] [] True [(0, sV .i64 l n), (1, sV .i64 m k), (12, uV n), (13, iV 0)] [] 0 trivial ?_
  refine AW.block ?_
  refine AW.loopE 0 hcx (fun (x : {x : Nat // match x with | i => (i ≤ n) ∧ (∀ j, j < i → List.getD l j 0 = List.getD m j 0)}) => match x with | ⟨i, _⟩ => (⟨[(0, sV .i64 l n), (1, sV .i64 m k), (12, uV n), (13, uV i)], [], 0⟩ : ES)) (fun (x : {x : Nat // match x with | i => (i ≤ n) ∧ (∀ j, j < i → List.getD l j 0 = List.getD m j 0)}) => match x with | ⟨i, _⟩ => n - i) ⟨(0 : Nat), (show ((0 : Nat) ≤ n) ∧ (∀ j, j < (0 : Nat) → List.getD l j 0 = List.getD m j 0) from ⟨(by first | omega | assumption | simp), (fun j hj => absurd hj (Nat.not_lt_zero j))⟩)⟩ [] (P := (((dI .i64 l) : List D) = (dI .i64 l)) ∧ ((n : Nat) = n) ∧ (((dI .i64 m) : List D) = (dI .i64 m)) ∧ ((k : Nat) = k) ∧ ((((n : Nat) : Int) : Int) = ((n : Nat) : Int)) ∧ ((0 : Int) = 0)) zk ⟨rfl, rfl, rfl, rfl, rfl, rfl⟩ ?_
  rintro ⟨i, hinv0⟩
  obtain ⟨hi, ha⟩ : (i ≤ n) ∧ (∀ j, j < i → List.getD l j 0 = List.getD m j 0) := hinv0
  refine AW.es (l := [(0, sV .i64 l n), (1, sV .i64 m k), (12, uV n), (13, uV i)]) (g := []) (nx := 0) rfl rfl rfl ?_
  by_cases hx2 : (((i : Nat) : Int) < ((n : Nat) : Int))
  ·refine zr [.b true] [0, 1, 12, 13, 14] [] ((((i : Nat) : Int) < ((n : Nat) : Int))) [(0, sV .i64 l n), (1, sV .i64 m k), (12, uV n), (13, uV i), (14, bV true)] [] 0 zo ?_
   refine AW.seq ?_
   refine zts ?_
   refine AW.seq ?_
   refine AW.block ?_
   refine zr [.no, .no] [0, 1, 5, 12, 13] [] True [(0, sV .i64 l n), (1, sV .i64 m k), (5, uV i), (12, uV n), (13, uV i)] [] 0 trivial ?_
   by_cases hx3 : ((List.getD l i 0) ≠ (List.getD m i 0))
   ·refine zr [.no, .no, .n i, .d (D.lit (.int .i64 (List.getD l i 0))), .no, .no, .n i, .d (D.lit (.int .i64 (List.getD m i 0))), .b true] [0, 1, 12, 13, 24] [] (((((i : Nat) : Int) : Int) = ((i : Nat) : Int)) ∧ (i < n) ∧ ((List.drop i (dI .i64 l))[0]? = some (D.lit (.int .i64 (List.getD l i 0)))) ∧ ((((i : Nat) : Int) : Int) = ((i : Nat) : Int)) ∧ (i < k) ∧ ((List.drop i (dI .i64 m))[0]? = some (D.lit (.int .i64 (List.getD m i 0)))) ∧ (((List.getD l i 0) ≠ (List.getD m i 0)))) [(0, sV .i64 l n), (1, sV .i64 m k), (12, uV n), (13, uV i), (24, bV true)] [] 0 ⟨rfl, zo, (dI_at _ _ _ zl07s0), rfl, zo, (dI_at _ _ _ zl07s0), zo⟩ ?_
    refine zt ?_
    refine zr [.no] [4] [] True [(4, bV false)] [] 0 trivial ?_
    refine AW.ret ?_
    exact EndP.of (.inr rfl) [] (P := ((sameL l m) = false)) zk (by first | exact sameL_n zo | exact sameL_x (by assumption) | exact sameL_y zo (fun j hj => ha j zo))
   ·refine zr [.no, .no, .n i, .d (D.lit (.int .i64 (List.getD l i 0))), .no, .no, .n i, .d (D.lit (.int .i64 (List.getD m i 0))), .b false] [0, 1, 12, 13, 24] [] (((((i : Nat) : Int) : Int) = ((i : Nat) : Int)) ∧ (i < n) ∧ ((List.drop i (dI .i64 l))[0]? = some (D.lit (.int .i64 (List.getD l i 0)))) ∧ ((((i : Nat) : Int) : Int) = ((i : Nat) : Int)) ∧ (i < k) ∧ ((List.drop i (dI .i64 m))[0]? = some (D.lit (.int .i64 (List.getD m i 0)))) ∧ (¬ ((List.getD l i 0) ≠ (List.getD m i 0)))) [(0, sV .i64 l n), (1, sV .i64 m k), (12, uV n), (13, uV i), (24, bV false)] [] 0 ⟨rfl, zo, (dI_at _ _ _ zl07s0), rfl, zo, (dI_at _ _ _ zl07s0), zo⟩ ?_
    refine zfs ?_
    refine zg [.w, .no] [0, 1, 12, 13] [] ((-9223372036854775808) ≤ (((i : Nat) : Int) + 1) ∧ (((i : Nat) : Int) + 1) ≤ 9223372036854775807) [(0, sV .i64 l n), (1, sV .i64 m k), (12, uV n), (13, iV (↑i + 1))] [] 0 ⟨by omega, by omega⟩ ?_
    exact Rd.of ⟨((i + 1) : Nat), (show ((i + 1) ≤ n) ∧ (∀ j, j < (i + 1) → List.getD l j 0 = List.getD m j 0) from ⟨(by first | omega | assumption | simp), (fun j hj => (Nat.lt_succ_iff_lt_or_eq.1 hj).elim (ha j) (fun e9 => by subst e9; omega))⟩)⟩ [] (P := (((dI .i64 l) : List D) = (dI .i64 l)) ∧ ((n : Nat) = n) ∧ (((dI .i64 m) : List D) = (dI .i64 m)) ∧ ((k : Nat) = k) ∧ ((((n : Nat) : Int) : Int) = ((n : Nat) : Int)) ∧ (((((i + 1) : Nat) : Int) : Int) = (((i : Nat) : Int) + 1))) zk ⟨rfl, rfl, rfl, rfl, rfl, (by first | rfl | omega | assumption | (simp; done) | (simp; omega))⟩ (show n - (i + 1) < n - i from (by first | omega | (show _ < _; simp; omega)))
  ·refine zr [.b false] [0, 1, 12, 13, 14] [] (¬ (((i : Nat) : Int) < ((n : Nat) : Int))) [(0, sV .i64 l n), (1, sV .i64 m k), (12, uV n), (13, uV i), (14, bV false)] [] 0 zo ?_
   refine AW.seq ?_
   refine zf ?_
   refine AW.exit ?_
   refine zr [.no] [4] [] True [(4, bV true)] [] 0 trivial ?_
   refine AW.ret ?_
   exact EndP.of (.inr rfl) [] (P := ((sameL l m) = true)) zk (by first | exact sameL_n zo | exact sameL_x (by assumption) | exact sameL_y zo (fun j hj => ha j zo))
theorem M_Same (a b c d : Int) (l m : List Int) (n k : Nat) (hn : List.length l = n) (hk : List.length m = k) (hb : n ≤ 100000000000000) (hb2 : k ≤ 100000000000000) : Fun 32 [.agg [iC a, iC b, .d (D.sl (dI .i64 l) n)], .agg [iC c, iC d, .d (D.sl (dI .i64 m) k)]] (toG []) 0 (.e (.c (.d (D.lit (.bool (decide (a = c ∧ b = d) && sameL l m)))))) (toG []) 0 := by
 refine Fun.mk (n := 24) Tryz.func32 rfl rfl (Nat.le_of_ble_eq_true rfl) ?_
 intro cx hcx
 refine zr [.no, .no, .no] [2, 3] [0, 1] True [(2, rV 0 0), (3, rV 1 0)] [(0, some (27, .ds [iD a, iD b, dl l n])), (1, some (27, .ds [iD c, iD d, dl m k]))] 2 trivial ?_
 by_cases hx1 : (a = c)
 ·by_cases hx2 : (b = d)
  ·rcases Bool.eq_false_or_eq_true (sameL l m) with hx3 | hx3
   ·refine zr [.no, .no, .no, .no, .b true, .no, .no, .no, .no, .no, .b true, .no, .no, .no, .no, .no, .no, .call [] (bV true) [] 0 [] none, .no, .no] [4] [] (((a = c)) ∧ ((b = d)) ∧ (Fun 67 [.c (.d (dl l n)), .c (.d (dl m k))] (toG []) 0 (bV true) (toG []) 0)) [(4, bV true)] [] 2 ⟨zo, zo, (by have h0 := (C_Same6 l m n k zo zo zo zo); rw [hx3] at h0; exact h0)⟩ ?_
    refine AW.ret ?_
    exact EndP.of (.inr rfl) [] (P := ((decide (a = c ∧ b = d) && sameL l m) = true)) zk (by simp_all)
   ·refine zr [.no, .no, .no, .no, .b true, .no, .no, .no, .no, .no, .b true, .no, .no, .no, .no, .no, .no, .call [] (bV false) [] 0 [] none, .no, .no] [4] [] (((a = c)) ∧ ((b = d)) ∧ (Fun 67 [.c (.d (dl l n)), .c (.d (dl m k))] (toG []) 0 (bV false) (toG []) 0)) [(4, bV false)] [] 2 ⟨zo, zo, (by have h0 := (C_Same6 l m n k zo zo zo zo); rw [hx3] at h0; exact h0)⟩ ?_
    refine AW.ret ?_
    exact EndP.of (.inr rfl) [] (P := ((decide (a = c ∧ b = d) && sameL l m) = false)) zk (by simp_all)
  ·refine zr [.no, .no, .no, .no, .b true, .no, .no, .no, .no, .no, .b false, .no, .no, .no, .no] [4] [] (((a = c)) ∧ (¬ (b = d))) [(4, bV false)] [] 2 ⟨zo, zo⟩ ?_
   refine AW.ret ?_
   exact EndP.of (.inr rfl) [] (P := ((decide (a = c ∧ b = d) && sameL l m) = false)) zk (by simp_all)
 ·refine zr [.no, .no, .no, .no, .b false, .no, .no, .no, .no, .no] [4] [] (¬ (a = c)) [(4, bV false)] [] 2 zo ?_
  refine AW.ret ?_
  exact EndP.of (.inr rfl) [] (P := ((decide (a = c ∧ b = d) && sameL l m) = false)) zk (by simp_all)
theorem Sl.max {k : IntKind} {w : World} {a : Option Addr} {len cap : Nat} {l : List Int} (h : Sl k w a len cap l) : List.length l ≤ 9223372036854775807 := by
 obtain ⟨h1, h2, h3, _⟩ := h
 unfold maxLen at h3
 omega
end Go.Proofs.YtigiolfloefjnaaGreatDoor
