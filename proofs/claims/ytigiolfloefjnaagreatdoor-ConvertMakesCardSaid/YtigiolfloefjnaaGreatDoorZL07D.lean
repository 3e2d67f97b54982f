/- Default for any two lists. No statement is proved here. -/
import Derived.Test.YtigiolfloefjnaaGreatDoorZL07P
namespace Go.Proofs.YtigiolfloefjnaaGreatDoor
open Go.ChangeShapes Go.WideShapes Go.ChangeAt Go.RowKit
set_option linter.unusedVariables false
set_option linter.unusedSimpArgs false
set_option maxHeartbeats 4000000
set_option maxRecDepth 100000
def chE (l : List Int) (n j : Nat) : Bool := decide (1 ≤ List.getD l j 0 ∧ List.getD l j 0 ≤ 8 ∧ idxK l (List.getD l j 0) n = (j : Int))
def chB (l : List Int) (n : Nat) : Bool := decide (1 ≤ n ∧ n ≤ 8) && (List.range n).all (chE l n)
theorem chB_t {l : List Int} {n : Nat} (h1 : 1 ≤ n ∧ n ≤ 8) (h : ∀ j, j < n → chE l n j = true) : chB l n = true :=
 Bool.and_eq_true_iff.2 ⟨decide_eq_true h1, List.all_eq_true.2 fun j hj => h j (List.mem_range.1 hj)⟩
theorem chB_f {l : List Int} {n : Nat} (h1 : ¬ (1 ≤ n ∧ n ≤ 8)) : chB l n = false := by unfold chB; rw [decide_eq_false h1]; rfl
theorem chB_s {l : List Int} {n k : Nat} (hk : k < n) (h : chE l n k = false) : chB l n = false := by
 cases hb : chB l n with
 | false => rfl
 | true =>
  have := List.all_eq_true.1 (Bool.and_eq_true_iff.1 hb).2 k (List.mem_range.2 hk)
  rw [h] at this; cases this
theorem chB_n {l : List Int} {n : Nat} (h : chB l n = true) : 1 ≤ n ∧ n ≤ 8 := of_decide_eq_true (Bool.and_eq_true_iff.1 h).1
theorem chB_at {l : List Int} {n j : Nat} (h : chB l n = true) (hj : j < n) : 1 ≤ List.getD l j 0 ∧ List.getD l j 0 ≤ 8 :=
 have h9 := of_decide_eq_true (List.all_eq_true.1 (Bool.and_eq_true_iff.1 h).2 j (List.mem_range.2 hj)); ⟨h9.1, h9.2.1⟩
def w1 (p : Int) : Int := if p = 5 then 7 else if p = 6 then 8 else if p = 7 then 5 else 6
def w2 (p : Int) : Int := if p = 5 then 1 else if p = 7 then 1 else 2
def put (to : List Int) (n m col : Nat) (g c : Int) (acc : List Int) : List Int := List.set acc (ixN to g m * n + col) c
def dfS (to : List Int) (n m col : Nat) (p : Int) (acc : List Int) : List Int :=
 if 0 ≤ idxK to p m then put to n m col p 32768 acc
 else if p = 3 then (if 0 ≤ idxK to 1 m ∧ 0 ≤ idxK to 2 m then put to n m col 2 23170 (put to n m col 1 23170 acc) else acc)
 else if p ≤ 2 then (if 0 ≤ idxK to 3 m then put to n m col 3 23170 acc else acc)
 else if p = 4 then acc
 else if 0 ≤ idxK to (w1 p) m then put to n m col (w1 p) 23170 acc
 else if 0 ≤ idxK to (w2 p) m then put to n m col (w2 p) 23170 acc
 else if 0 ≤ idxK to 3 m then put to n m col 3 23170 acc else acc
def dfL (fr to : List Int) (n m : Nat) : Nat → List Int
 | 0 => List.replicate (n * m) 0
 | k + 1 => dfS to n m k (List.getD fr k 0) (dfL fr to n m k)
theorem dfS_len (to : List Int) (n m col : Nat) (p : Int) (acc : List Int) : List.length (dfS to n m col p acc) = List.length acc := by
 unfold dfS put
 (repeat' split) <;> simp
theorem dfL_len (fr to : List Int) (n m : Nat) : ∀ k, List.length (dfL fr to n m k) = n * m
 | 0 => by simp [dfL]
 | k + 1 => by show List.length (dfS _ _ _ _ _ _) = _; rw [dfS_len, dfL_len fr to n m k]
theorem ixN_ok {l : List Int} {v : Int} {n : Nat} (h : 0 ≤ idxK l v n) (i : Nat) : ixN l v n < n ∧ (ixN l v n + 1) * i ≤ i * n ∧ ixN l v n * i + i ≤ i * n := by
 have h1 := idxK_get n h
 have h2 := Nat.mul_le_mul_right i (show ixN l v n + 1 ≤ n from h1.2.1)
 rw [Nat.mul_comm n i] at h2
 exact ⟨h1.2.1, h2, by rw [Nat.succ_mul] at h2; exact h2⟩
theorem zl07d3 {p : Prop} (h : p := by first | omega | assumption | simp) : p := h
theorem zl07d2 {p : Prop} (h : p := by first | omega | (rw [dI_len]; omega) | (simp [dI_len] <;> omega) | rfl) : p := h
theorem C_rIndex (l : List Int) (n : Nat) (v : Int) (hn : List.length l = n) (hm : n ≤ 1000000) : Fun 63 [.c (.d (D.sl (dI .i64 l) n)), iE v] (toG []) 0 (iV (idxK l v n)) (toG []) 0 := by
 refine Fun.mk (n := 19) Tryz.func63 rfl rfl (Nat.le_of_ble_eq_true rfl) ?_
 intro cx hcx
 refine zr [.no] [0, 1] [] True [(0, sV .i64 l n), (1, iV v)] [] 0 trivial ?_
 refine AW.seq ?_
 refine zr [.no, .no, .no] [1, 7, 8, 9] [] True [(1, iV v), (7, sV .i64 l n), (8, uV n), (9, iV 0)] [] 0 trivial ?_
 refine AW.block ?_
 refine AW.loopE 0 hcx (fun (x : {x : Nat // match x with | k => (k ≤ n) ∧ (idxK l v k = -1)}) => match x with | ⟨k, _⟩ => (⟨[(1, iV v), (7, sV .i64 l n), (8, uV n), (9, uV k)], [], 0⟩ : ES)) (fun (x : {x : Nat // match x with | k => (k ≤ n) ∧ (idxK l v k = -1)}) => match x with | ⟨k, _⟩ => n - k) ⟨(0 : Nat), (show ((0 : Nat) ≤ n) ∧ (idxK l v (0 : Nat) = -1) from ⟨zl07d3, rfl⟩)⟩ [] (P := ((v : Int) = v) ∧ (((dI .i64 l) : List D) = (dI .i64 l)) ∧ ((n : Nat) = n) ∧ ((((n : Nat) : Int) : Int) = ((n : Nat) : Int)) ∧ ((0 : Int) = 0)) zk ⟨rfl, rfl, rfl, rfl, rfl⟩ ?_
 rintro ⟨k, hinv0⟩
 obtain ⟨hk, hi⟩ : (k ≤ n) ∧ (idxK l v k = -1) := hinv0
 refine AW.es (l := [(1, iV v), (7, sV .i64 l n), (8, uV n), (9, uV k)]) (g := []) (nx := 0) rfl rfl rfl ?_
 by_cases hx1 : (((k : Nat) : Int) < ((n : Nat) : Int))
 ·refine zr [.b true] [1, 7, 8, 9, 10] [] ((((k : Nat) : Int) < ((n : Nat) : Int))) [(1, iV v), (7, sV .i64 l n), (8, uV n), (9, uV k), (10, bV true)] [] 0 zo ?_
  refine AW.seq ?_
  refine zts ?_
  refine AW.seq ?_
  refine AW.block ?_
  refine zr [.no, .n k, .d (D.lit (.int .i64 (List.getD l k 0))), .no, .no] [1, 5, 6, 7, 8, 9] [] (((((k : Nat) : Int) : Int) = ((k : Nat) : Int)) ∧ (k < n) ∧ ((List.drop k (dI .i64 l))[0]? = some (D.lit (.int .i64 (List.getD l k 0))))) [(1, iV v), (5, uV k), (6, iV (List.getD l k 0)), (7, sV .i64 l n), (8, uV n), (9, uV k)] [] 0 ⟨rfl, zo, (dI_at _ _ _ zl07d2)⟩ ?_
  by_cases hx2 : ((List.getD l k 0) = v)
  ·refine zr [.no, .no, .b true] [1, 5, 7, 8, 9, 16] [] (((List.getD l k 0) = v)) [(1, iV v), (5, uV k), (7, sV .i64 l n), (8, uV n), (9, uV k), (16, bV true)] [] 0 zo ?_
   refine zt ?_
   refine zr [.no, .no] [4] [] True [(4, uV k)] [] 0 trivial ?_
   refine AW.ret ?_
   exact EndP.of (.inr rfl) [] (P := (((idxK l v n) : Int) = ((k : Nat) : Int))) zk (by first | rfl | exact idxK_hit hi zo n zo | (rw [show n = k by omega]; exact hi))
  ·refine zr [.no, .no, .b false] [1, 5, 7, 8, 9, 16] [] (¬ ((List.getD l k 0) = v)) [(1, iV v), (5, uV k), (7, sV .i64 l n), (8, uV n), (9, uV k), (16, bV false)] [] 0 zo ?_
   refine zfs ?_
   refine zg [.w, .no] [1, 7, 8, 9] [] ((-9223372036854775808) ≤ (((k : Nat) : Int) + 1) ∧ (((k : Nat) : Int) + 1) ≤ 9223372036854775807) [(1, iV v), (7, sV .i64 l n), (8, uV n), (9, iV (↑k + 1))] [] 0 ⟨by omega, by omega⟩ ?_
   exact Rd.of ⟨((k + 1) : Nat), (show ((k + 1) ≤ n) ∧ (idxK l v (k + 1) = -1) from ⟨zl07d3, (idxK_miss hi zo)⟩)⟩ [] (P := ((v : Int) = v) ∧ (((dI .i64 l) : List D) = (dI .i64 l)) ∧ ((n : Nat) = n) ∧ ((((n : Nat) : Int) : Int) = ((n : Nat) : Int)) ∧ (((((k + 1) : Nat) : Int) : Int) = (((k : Nat) : Int) + 1))) zk ⟨rfl, rfl, rfl, rfl, (by first | rfl | omega | assumption | (simp; done) | (simp; omega))⟩ (show n - (k + 1) < n - k from (by first | omega | (show _ < _; simp; omega)))
 ·refine zr [.b false] [1, 7, 8, 9, 10] [] (¬ (((k : Nat) : Int) < ((n : Nat) : Int))) [(1, iV v), (7, sV .i64 l n), (8, uV n), (9, uV k), (10, bV false)] [] 0 zo ?_
  refine AW.seq ?_
  refine zf ?_
  refine AW.exit ?_
  refine zr [.no] [4] [] True [(4, iV (-1))] [] 0 trivial ?_
  refine AW.ret ?_
  exact EndP.of (.inr rfl) [] (P := (((idxK l v n) : Int) = (-1))) zk (by first | rfl | exact idxK_hit hi zo n zo | (rw [show n = k by omega]; exact hi))
theorem D_Valid (l : List Int) (n : Nat) (hn : List.length l = n) (hm : n ≤ 1000000) : Fun 38 [.c (.d (D.sl (dI .i64 l) n))] (toG []) 0 (.e (.c (.d (D.lit (.bool (chB l n)))))) (toG []) 0 := by
 refine Fun.mk (n := 31) Tryz.func38 rfl rfl (Nat.le_of_ble_eq_true rfl) ?_
 intro cx hcx
 refine zr [.no] [0] [] True [(0, sV .i64 l n)] [] 0 trivial ?_
 refine AW.seq ?_
 by_cases hx1 : (((n : Nat) : Int) < 1)
 ·refine zr [.no, .no, .b true, .no, .no] [0, 12] [] ((((n : Nat) : Int) < 1)) [(0, sV .i64 l n), (12, bV true)] [] 0 zo ?_
  refine zt ?_
  refine zr [.no] [2] [] True [(2, bV false)] [] 0 trivial ?_
  refine AW.ret ?_
  exact EndP.of (.inr rfl) [] (P := ((chB l n) = false)) zk (by first | exact chB_t zo (fun j hj => ha j zo) | exact chB_f zo | exact chB_s (k := k) zo (decide_eq_false zo))
 ·by_cases hx2 : ((8 : Int) < ((n : Nat) : Int))
  ·refine zr [.no, .no, .b false, .no, .no, .no, .b true, .no] [0, 12] [] ((¬ (((n : Nat) : Int) < 1)) ∧ (((8 : Int) < ((n : Nat) : Int)))) [(0, sV .i64 l n), (12, bV true)] [] 0 ⟨zo, zo⟩ ?_
   refine zt ?_
   refine zr [.no] [2] [] True [(2, bV false)] [] 0 trivial ?_
   refine AW.ret ?_
   exact EndP.of (.inr rfl) [] (P := ((chB l n) = false)) zk (by first | exact chB_t zo (fun j hj => ha j zo) | exact chB_f zo | exact chB_s (k := k) zo (decide_eq_false zo))
  ·refine zr [.no, .no, .b false, .no, .no, .no, .b false, .no] [0, 12] [] ((¬ (((n : Nat) : Int) < 1)) ∧ (¬ ((8 : Int) < ((n : Nat) : Int)))) [(0, sV .i64 l n), (12, bV false)] [] 0 ⟨zo, zo⟩ ?_
   refine zfs ?_
   refine AW.seq ?_
   refine zr [.no, .no, .no] [0, 13, 14, 15] [] True [(0, sV .i64 l n), (13, sV .i64 l n), (14, uV n), (15, iV 0)] [] 0 trivial ?_
   refine AW.block ?_
   refine AW.loopE 0 hcx (fun (x : {x : Nat // match x with | k => (k ≤ n) ∧ (∀ j, j < k → chE l n j = true)}) => match x with | ⟨k, _⟩ => (⟨[(0, sV .i64 l n), (13, sV .i64 l n), (14, uV n), (15, uV k)], [], 0⟩ : ES)) (fun (x : {x : Nat // match x with | k => (k ≤ n) ∧ (∀ j, j < k → chE l n j = true)}) => match x with | ⟨k, _⟩ => n - k) ⟨(0 : Nat), (show ((0 : Nat) ≤ n) ∧ (∀ j, j < (0 : Nat) → chE l n j = true) from ⟨zl07d3, (fun j hj => absurd hj (Nat.not_lt_zero j))⟩)⟩ [] (P := (((dI .i64 l) : List D) = (dI .i64 l)) ∧ ((n : Nat) = n) ∧ (((dI .i64 l) : List D) = (dI .i64 l)) ∧ ((n : Nat) = n) ∧ ((((n : Nat) : Int) : Int) = ((n : Nat) : Int)) ∧ ((0 : Int) = 0)) zk ⟨rfl, rfl, rfl, rfl, rfl, rfl⟩ ?_
   rintro ⟨k, hinv0⟩
   obtain ⟨hk, ha⟩ : (k ≤ n) ∧ (∀ j, j < k → chE l n j = true) := hinv0
   refine AW.es (l := [(0, sV .i64 l n), (13, sV .i64 l n), (14, uV n), (15, uV k)]) (g := []) (nx := 0) rfl rfl rfl ?_
   by_cases hx3 : (((k : Nat) : Int) < ((n : Nat) : Int))
   ·refine zr [.b true] [0, 13, 14, 15, 16] [] ((((k : Nat) : Int) < ((n : Nat) : Int))) [(0, sV .i64 l n), (13, sV .i64 l n), (14, uV n), (15, uV k), (16, bV true)] [] 0 zo ?_
    refine AW.seq ?_
    refine zts ?_
    refine AW.seq ?_
    refine AW.block ?_
    refine zr [.no, .n k, .d (D.lit (.int .i64 (List.getD l k 0))), .no, .no] [0, 3, 4, 13, 14, 15] [] (((((k : Nat) : Int) : Int) = ((k : Nat) : Int)) ∧ (k < n) ∧ ((List.drop k (dI .i64 l))[0]? = some (D.lit (.int .i64 (List.getD l k 0))))) [(0, sV .i64 l n), (3, uV k), (4, iV (List.getD l k 0)), (13, sV .i64 l n), (14, uV n), (15, uV k)] [] 0 ⟨rfl, zo, (dI_at _ _ _ zl07d2)⟩ ?_
    rcases Bool.eq_false_or_eq_true (decide (1 ≤ (List.getD l k 0) ∧ (List.getD l k 0) ≤ 8)) with hx4 | hx4
    ·have hx5 : (((1 : Int) ≤ (List.getD l k 0)) ∧ ((List.getD l k 0) ≤ 8)) := of_decide_eq_true hx4
     by_cases hx6 : ((idxK l (List.getD l k 0) n) ≠ ((k : Nat) : Int))
     ·refine zr [.no, .call [] (bV true) [] 0 [] none, .no, .no, .no, .no, .call [] (iV (idxK l (List.getD l k 0) n)) [] 0 [] none, .no, .b true, .no] [0, 13, 14, 15, 29] [] ((Fun 75 [iE (List.getD l k 0)] (toG []) 0 (bV true) (toG []) 0) ∧ (_) ∧ (((idxK l (List.getD l k 0) n) ≠ ((k : Nat) : Int)))) [(0, sV .i64 l n), (13, sV .i64 l n), (14, uV n), (15, uV k), (29, bV true)] [] 0 ⟨(by have h0 := (C_isPos (List.getD l k 0)); rw [hx4] at h0; exact h0), (C_Index l n (List.getD l k 0) zo zo), zo⟩ ?_
      refine zt ?_
      refine zr [.no] [2] [] True [(2, bV false)] [] 0 trivial ?_
      refine AW.ret ?_
      exact EndP.of (.inr rfl) [] (P := ((chB l n) = false)) zk (by first | exact chB_t zo (fun j hj => ha j zo) | exact chB_f zo | exact chB_s (k := k) zo (decide_eq_false zo))
     ·refine zr [.no, .call [] (bV true) [] 0 [] none, .no, .no, .no, .no, .call [] (iV (idxK l (List.getD l k 0) n)) [] 0 [] none, .no, .b false, .no] [0, 13, 14, 15, 29] [] ((Fun 75 [iE (List.getD l k 0)] (toG []) 0 (bV true) (toG []) 0) ∧ (_) ∧ (¬ ((idxK l (List.getD l k 0) n) ≠ ((k : Nat) : Int)))) [(0, sV .i64 l n), (13, sV .i64 l n), (14, uV n), (15, uV k), (29, bV false)] [] 0 ⟨(by have h0 := (C_isPos (List.getD l k 0)); rw [hx4] at h0; exact h0), (C_Index l n (List.getD l k 0) zo zo), zo⟩ ?_
      refine zfs ?_
      refine zg [.w, .no] [0, 13, 14, 15] [] ((-9223372036854775808) ≤ (((k : Nat) : Int) + 1) ∧ (((k : Nat) : Int) + 1) ≤ 9223372036854775807) [(0, sV .i64 l n), (13, sV .i64 l n), (14, uV n), (15, iV (↑k + 1))] [] 0 ⟨by omega, by omega⟩ ?_
      exact Rd.of ⟨((k + 1) : Nat), (show ((k + 1) ≤ n) ∧ (∀ j, j < (k + 1) → chE l n j = true) from ⟨zl07d3, (fun j hj => (Nat.lt_succ_iff_lt_or_eq.1 hj).elim (ha j) (fun e9 => by subst e9; exact decide_eq_true zo))⟩)⟩ [] (P := (((dI .i64 l) : List D) = (dI .i64 l)) ∧ ((n : Nat) = n) ∧ (((dI .i64 l) : List D) = (dI .i64 l)) ∧ ((n : Nat) = n) ∧ ((((n : Nat) : Int) : Int) = ((n : Nat) : Int)) ∧ (((((k + 1) : Nat) : Int) : Int) = (((k : Nat) : Int) + 1))) zk ⟨rfl, rfl, rfl, rfl, rfl, (by first | rfl | omega | assumption | (simp; done) | (simp; omega))⟩ (show n - (k + 1) < n - k from (by first | omega | (show _ < _; simp; omega)))
    ·have hx7 : ¬ (((1 : Int) ≤ (List.getD l k 0)) ∧ ((List.getD l k 0) ≤ 8)) := of_decide_eq_false hx4
     refine zr [.no, .call [] (bV false) [] 0 [] none, .no, .no, .no] [0, 13, 14, 15, 29] [] (Fun 75 [iE (List.getD l k 0)] (toG []) 0 (bV false) (toG []) 0) [(0, sV .i64 l n), (13, sV .i64 l n), (14, uV n), (15, uV k), (29, bV true)] [] 0 (by have h0 := (C_isPos (List.getD l k 0)); rw [hx4] at h0; exact h0) ?_
     refine zt ?_
     refine zr [.no] [2] [] True [(2, bV false)] [] 0 trivial ?_
     refine AW.ret ?_
     exact EndP.of (.inr rfl) [] (P := ((chB l n) = false)) zk (by first | exact chB_t zo (fun j hj => ha j zo) | exact chB_f zo | exact chB_s (k := k) zo (decide_eq_false zo))
   ·refine zr [.b false] [0, 13, 14, 15, 16] [] (¬ (((k : Nat) : Int) < ((n : Nat) : Int))) [(0, sV .i64 l n), (13, sV .i64 l n), (14, uV n), (15, uV k), (16, bV false)] [] 0 zo ?_
    refine AW.seq ?_
    refine zf ?_
    refine AW.exit ?_
    refine zr [.no] [2] [] True [(2, bV true)] [] 0 trivial ?_
    refine AW.ret ?_
    exact EndP.of (.inr rfl) [] (P := ((chB l n) = true)) zk (by first | exact chB_t zo (fun j hj => ha j zo) | exact chB_f zo | exact chB_s (k := k) zo (decide_eq_false zo))
theorem D_rValid (l : List Int) (n : Nat) (hn : List.length l = n) (hm : n ≤ 1000000) : Fun 40 [.c (.d (D.sl (dI .i64 l) n))] (toG []) 0 (.e (.c (.d (D.lit (.bool (chB l n)))))) (toG []) 0 := by
 refine Fun.mk (n := 34) Tryz.func40 rfl rfl (Nat.le_of_ble_eq_true rfl) ?_
 intro cx hcx
 refine zr [.no] [0] [] True [(0, sV .i64 l n)] [] 0 trivial ?_
 refine AW.seq ?_
 refine zr [.no, .no, .no] [0, 5, 6, 7] [] True [(0, sV .i64 l n), (5, sV .i64 l n), (6, uV n), (7, iV 0)] [] 0 trivial ?_
 refine AW.block ?_
 refine AW.loopE 0 hcx (fun (x : {x : Nat // match x with | k => (k ≤ n) ∧ (∀ j, j < k → chE l n j = true)}) => match x with | ⟨k, _⟩ => (⟨[(0, sV .i64 l n), (5, sV .i64 l n), (6, uV n), (7, uV k)], [], 0⟩ : ES)) (fun (x : {x : Nat // match x with | k => (k ≤ n) ∧ (∀ j, j < k → chE l n j = true)}) => match x with | ⟨k, _⟩ => n - k) ⟨(0 : Nat), (show ((0 : Nat) ≤ n) ∧ (∀ j, j < (0 : Nat) → chE l n j = true) from ⟨zl07d3, (fun j hj => absurd hj (Nat.not_lt_zero j))⟩)⟩ [] (P := (((dI .i64 l) : List D) = (dI .i64 l)) ∧ ((n : Nat) = n) ∧ (((dI .i64 l) : List D) = (dI .i64 l)) ∧ ((n : Nat) = n) ∧ ((((n : Nat) : Int) : Int) = ((n : Nat) : Int)) ∧ ((0 : Int) = 0)) zk ⟨rfl, rfl, rfl, rfl, rfl, rfl⟩ ?_
 rintro ⟨k, hinv0⟩
 obtain ⟨hk, ha⟩ : (k ≤ n) ∧ (∀ j, j < k → chE l n j = true) := hinv0
 refine AW.es (l := [(0, sV .i64 l n), (5, sV .i64 l n), (6, uV n), (7, uV k)]) (g := []) (nx := 0) rfl rfl rfl ?_
 by_cases hx1 : (((k : Nat) : Int) < ((n : Nat) : Int))
 ·refine zr [.b true] [0, 5, 6, 7, 8] [] ((((k : Nat) : Int) < ((n : Nat) : Int))) [(0, sV .i64 l n), (5, sV .i64 l n), (6, uV n), (7, uV k), (8, bV true)] [] 0 zo ?_
  refine AW.seq ?_
  refine zts ?_
  refine AW.seq ?_
  refine AW.block ?_
  refine zr [.no, .n k, .d (D.lit (.int .i64 (List.getD l k 0))), .no, .no] [0, 3, 4, 5, 6, 7] [] (((((k : Nat) : Int) : Int) = ((k : Nat) : Int)) ∧ (k < n) ∧ ((List.drop k (dI .i64 l))[0]? = some (D.lit (.int .i64 (List.getD l k 0))))) [(0, sV .i64 l n), (3, uV k), (4, iV (List.getD l k 0)), (5, sV .i64 l n), (6, uV n), (7, uV k)] [] 0 ⟨rfl, zo, (dI_at _ _ _ zl07d2)⟩ ?_
  by_cases hx2 : ((List.getD l k 0) < 1)
  ·refine zr [.no, .b true, .no, .no, .no, .no] [0, 5, 6, 7, 24] [] (((List.getD l k 0) < 1)) [(0, sV .i64 l n), (5, sV .i64 l n), (6, uV n), (7, uV k), (24, bV true)] [] 0 zo ?_
   refine zt ?_
   refine zr [.no] [2] [] True [(2, bV false)] [] 0 trivial ?_
   refine AW.ret ?_
   exact EndP.of (.inr rfl) [] (P := ((chB l n) = false)) zk (by first | exact chB_t zo (fun j hj => ha j zo) | exact chB_f zo | exact chB_s (k := k) zo (decide_eq_false zo))
  ·by_cases hx3 : ((8 : Int) < (List.getD l k 0))
   ·refine zr [.no, .b false, .no, .no, .b true, .no, .no, .no] [0, 5, 6, 7, 24] [] ((¬ ((List.getD l k 0) < 1)) ∧ (((8 : Int) < (List.getD l k 0)))) [(0, sV .i64 l n), (5, sV .i64 l n), (6, uV n), (7, uV k), (24, bV true)] [] 0 ⟨zo, zo⟩ ?_
    refine zt ?_
    refine zr [.no] [2] [] True [(2, bV false)] [] 0 trivial ?_
    refine AW.ret ?_
    exact EndP.of (.inr rfl) [] (P := ((chB l n) = false)) zk (by first | exact chB_t zo (fun j hj => ha j zo) | exact chB_f zo | exact chB_s (k := k) zo (decide_eq_false zo))
   ·by_cases hx4 : ((idxK l (List.getD l k 0) n) ≠ ((k : Nat) : Int))
    ·refine zr [.no, .b false, .no, .no, .b false, .no, .no, .no, .no, .call [] (iV (idxK l (List.getD l k 0) n)) [] 0 [] none, .no, .b true, .no] [0, 5, 6, 7, 24] [] ((¬ ((List.getD l k 0) < 1)) ∧ (¬ ((8 : Int) < (List.getD l k 0))) ∧ (_) ∧ (((idxK l (List.getD l k 0) n) ≠ ((k : Nat) : Int)))) [(0, sV .i64 l n), (5, sV .i64 l n), (6, uV n), (7, uV k), (24, bV true)] [] 0 ⟨zo, zo, (C_rIndex l n (List.getD l k 0) zo zo), zo⟩ ?_
     refine zt ?_
     refine zr [.no] [2] [] True [(2, bV false)] [] 0 trivial ?_
     refine AW.ret ?_
     exact EndP.of (.inr rfl) [] (P := ((chB l n) = false)) zk (by first | exact chB_t zo (fun j hj => ha j zo) | exact chB_f zo | exact chB_s (k := k) zo (decide_eq_false zo))
    ·refine zr [.no, .b false, .no, .no, .b false, .no, .no, .no, .no, .call [] (iV (idxK l (List.getD l k 0) n)) [] 0 [] none, .no, .b false, .no] [0, 5, 6, 7, 24] [] ((¬ ((List.getD l k 0) < 1)) ∧ (¬ ((8 : Int) < (List.getD l k 0))) ∧ (_) ∧ (¬ ((idxK l (List.getD l k 0) n) ≠ ((k : Nat) : Int)))) [(0, sV .i64 l n), (5, sV .i64 l n), (6, uV n), (7, uV k), (24, bV false)] [] 0 ⟨zo, zo, (C_rIndex l n (List.getD l k 0) zo zo), zo⟩ ?_
     refine zfs ?_
     refine zg [.w, .no] [0, 5, 6, 7] [] ((-9223372036854775808) ≤ (((k : Nat) : Int) + 1) ∧ (((k : Nat) : Int) + 1) ≤ 9223372036854775807) [(0, sV .i64 l n), (5, sV .i64 l n), (6, uV n), (7, iV (↑k + 1))] [] 0 ⟨by omega, by omega⟩ ?_
     exact Rd.of ⟨((k + 1) : Nat), (show ((k + 1) ≤ n) ∧ (∀ j, j < (k + 1) → chE l n j = true) from ⟨zl07d3, (fun j hj => (Nat.lt_succ_iff_lt_or_eq.1 hj).elim (ha j) (fun e9 => by subst e9; exact decide_eq_true zo))⟩)⟩ [] (P := (((dI .i64 l) : List D) = (dI .i64 l)) ∧ ((n : Nat) = n) ∧ (((dI .i64 l) : List D) = (dI .i64 l)) ∧ ((n : Nat) = n) ∧ ((((n : Nat) : Int) : Int) = ((n : Nat) : Int)) ∧ (((((k + 1) : Nat) : Int) : Int) = (((k : Nat) : Int) + 1))) zk ⟨rfl, rfl, rfl, rfl, rfl, (by first | rfl | omega | assumption | (simp; done) | (simp; omega))⟩ (show n - (k + 1) < n - k from (by first | omega | (show _ < _; simp; omega)))
 ·refine zr [.b false] [0, 5, 6, 7, 8] [] (¬ (((k : Nat) : Int) < ((n : Nat) : Int))) [(0, sV .i64 l n), (5, sV .i64 l n), (6, uV n), (7, uV k), (8, bV false)] [] 0 zo ?_
  refine AW.seq ?_
  refine zf ?_
  refine AW.exit ?_
  by_cases hx5 : ((1 : Int) ≤ ((n : Nat) : Int))
  ·by_cases hx6 : (((n : Nat) : Int) ≤ 8)
   ·refine zr [.no, .no, .b true, .no, .no, .no, .b true, .no, .no] [2] [] ((((1 : Int) ≤ ((n : Nat) : Int))) ∧ ((((n : Nat) : Int) ≤ 8))) [(2, bV true)] [] 0 ⟨zo, zo⟩ ?_
    refine AW.ret ?_
    exact EndP.of (.inr rfl) [] (P := ((chB l n) = true)) zk (by first | exact chB_t zo (fun j hj => ha j zo) | exact chB_f zo | exact chB_s (k := k) zo (decide_eq_false zo))
   ·refine zr [.no, .no, .b true, .no, .no, .no, .b false, .no, .no] [2] [] ((((1 : Int) ≤ ((n : Nat) : Int))) ∧ (¬ (((n : Nat) : Int) ≤ 8))) [(2, bV false)] [] 0 ⟨zo, zo⟩ ?_
    refine AW.ret ?_
    exact EndP.of (.inr rfl) [] (P := ((chB l n) = false)) zk (by first | exact chB_t zo (fun j hj => ha j zo) | exact chB_f zo | exact chB_s (k := k) zo (decide_eq_false zo))
  ·refine zr [.no, .no, .b false, .no, .no, .no] [2] [] (¬ ((1 : Int) ≤ ((n : Nat) : Int))) [(2, bV false)] [] 0 zo ?_
   refine AW.ret ?_
   exact EndP.of (.inr rfl) [] (P := ((chB l n) = false)) zk (by first | exact chB_t zo (fun j hj => ha j zo) | exact chB_f zo | exact chB_s (k := k) zo (decide_eq_false zo))
theorem zl07d1 {p : Prop} (h : p := by first | omega | with_reducible assumption | (simp <;> omega) | rfl | assumption) : p := h
theorem D_Com1h (x : Int) (l : List Int) (n : Nat) (hn : List.length l = n) (hm : n ≤ 1000000) (h1 : 0 ≤ idxK l x n) : Fun 99 [.c (.d (D.sl [iD x] 1)), .c (.d (D.sl (dI .i64 l) n))] (toG []) 0 (oV 0 0 1 1) (toG [(0, some (3, .ds [iD x]))]) 1 := by
 refine Fun.mk (n := 24) Tryz.func99 rfl rfl (Nat.le_of_ble_eq_true rfl) ?_
 intro cx hcx
 refine zr [.no] [0, 1] [] True [(0, .e (.c (.d (D.sl [iD x] 1)))), (1, sV .i64 l n)] [] 0 trivial ?_
 refine zr [.no] [0, 1, 5] [] True [(0, .e (.c (.d (D.sl [iD x] 1)))), (1, sV .i64 l n), (5, nV)] [] 0 trivial ?_
 refine AW.seq ?_
 refine zr [.no, .no, .no] [1, 5, 8, 9, 10] [] True [(1, sV .i64 l n), (5, nV), (8, .e (.c (.d (D.sl [iD x] 1)))), (9, iV 1), (10, iV 0)] [] 0 trivial ?_
 refine AW.block ?_
 refine AW.rounds 2 ?_
 refine AWr.s ?_
 refine zr [.b true] [1, 5, 8, 9, 10, 11] [] (((0 : Int) < 1)) [(1, sV .i64 l n), (5, nV), (8, .e (.c (.d (D.sl [iD x] 1)))), (9, iV 1), (10, iV 0), (11, bV true)] [] 0 zo ?_
 refine AW.seq ?_
 refine zts ?_
 refine AW.seq ?_
 refine AW.block ?_
 refine zr [.n 0, .no, .no] [1, 5, 7, 8, 9, 10] [] (((0 : Int) = 0) ∧ ((0 : Nat) < 1)) [(1, sV .i64 l n), (5, nV), (7, iV x), (8, .e (.c (.d (D.sl [iD x] 1)))), (9, iV 1), (10, iV 0)] [] 0 ⟨rfl, zo⟩ ?_
 refine zr [.no, .no, .call [] (uV (ixN l x n)) [] 0 [] none, .b true] [1, 5, 7, 8, 9, 10, 17] [] ((_) ∧ (((0 : Int) ≤ (((ixN l x n) : Nat) : Int)))) [(1, sV .i64 l n), (5, nV), (7, iV x), (8, .e (.c (.d (D.sl [iD x] 1)))), (9, iV 1), (10, iV 0), (17, bV true)] [] 0 ⟨(C_IndexAt l n x zo zo zl07d1), zo⟩ ?_
 refine zt ?_
 refine zg [.no, .no, .no, .ap none 1 [iD x], .no] [1, 5, 8, 9, 10] [1] (([iD x].length = 1 * 1) ∧ ((1 : Nat) * 8 ≤ 140737488355328) ∧ ((1 : Nat) = 1) ∧ (([iD x] : List D) = [iD x])) [(1, sV .i64 l n), (5, oV 1 0 1 1), (8, .e (.c (.d (D.sl [iD x] 1)))), (9, iV 1), (10, iV 0)] [(1, some (3, .ds [iD x]))] 2 ⟨zl07d2, zo, rfl, rfl⟩ ?_
 refine zg [.w, .no] [1, 5, 8, 9, 10] [1] ((-9223372036854775808) ≤ (1 : Int) ∧ (1 : Int) ≤ 9223372036854775807) [(1, sV .i64 l n), (5, oV 1 0 1 1), (8, .e (.c (.d (D.sl [iD x] 1)))), (9, iV 1), (10, iV 1)] [(1, some (3, .ds [iD x]))] 2 ⟨by omega, by omega⟩ ?_
 refine AWr.s ?_
 refine zr [.b false] [1, 5, 8, 9, 10, 11] [1] (¬ ((1 : Int) < 1)) [(1, sV .i64 l n), (5, oV 1 0 1 1), (8, .e (.c (.d (D.sl [iD x] 1)))), (9, iV 1), (10, iV 1), (11, bV false)] [(1, some (3, .ds [iD x]))] 2 zo ?_
 refine AW.seq ?_
 refine zf ?_
 refine AW.exit ?_
 refine zr [.no, .no] [4] [1] True [(4, oV 1 0 1 1)] [(1, some (3, .ds [iD x]))] 2 trivial ?_
 refine AW.ret ?_
 exact EndP.of (.inr rfl) [(0, 1)] (P := ((0 : Nat) = 0) ∧ ((1 : Nat) = 1) ∧ (([iD x] : List D) = [iD x])) zk ⟨rfl, rfl, rfl⟩
theorem D_Com1m (x : Int) (l : List Int) (n : Nat) (hn : List.length l = n) (hm : n ≤ 1000000) (h1 : idxK l x n < 0) : Fun 99 [.c (.d (D.sl [iD x] 1)), .c (.d (D.sl (dI .i64 l) n))] (toG []) 0 (nV) (toG []) 0 := by
 refine Fun.mk (n := 24) Tryz.func99 rfl rfl (Nat.le_of_ble_eq_true rfl) ?_
 intro cx hcx
 refine zr [.no] [0, 1] [] True [(0, .e (.c (.d (D.sl [iD x] 1)))), (1, sV .i64 l n)] [] 0 trivial ?_
 refine zr [.no] [0, 1, 5] [] True [(0, .e (.c (.d (D.sl [iD x] 1)))), (1, sV .i64 l n), (5, nV)] [] 0 trivial ?_
 refine AW.seq ?_
 refine zr [.no, .no, .no] [1, 5, 8, 9, 10] [] True [(1, sV .i64 l n), (5, nV), (8, .e (.c (.d (D.sl [iD x] 1)))), (9, iV 1), (10, iV 0)] [] 0 trivial ?_
 refine AW.block ?_
 refine AW.rounds 2 ?_
 refine AWr.s ?_
 refine zr [.b true] [1, 5, 8, 9, 10, 11] [] (((0 : Int) < 1)) [(1, sV .i64 l n), (5, nV), (8, .e (.c (.d (D.sl [iD x] 1)))), (9, iV 1), (10, iV 0), (11, bV true)] [] 0 zo ?_
 refine AW.seq ?_
 refine zts ?_
 refine AW.seq ?_
 refine AW.block ?_
 refine zr [.n 0, .no, .no] [1, 5, 7, 8, 9, 10] [] (((0 : Int) = 0) ∧ ((0 : Nat) < 1)) [(1, sV .i64 l n), (5, nV), (7, iV x), (8, .e (.c (.d (D.sl [iD x] 1)))), (9, iV 1), (10, iV 0)] [] 0 ⟨rfl, zo⟩ ?_
 refine zr [.no, .no, .call [] (iV (idxK l x n)) [] 0 [] none, .b false] [1, 5, 7, 8, 9, 10, 17] [] ((_) ∧ (¬ ((0 : Int) ≤ (idxK l x n)))) [(1, sV .i64 l n), (5, nV), (7, iV x), (8, .e (.c (.d (D.sl [iD x] 1)))), (9, iV 1), (10, iV 0), (17, bV false)] [] 0 ⟨(C_Index l n x zo zo), zo⟩ ?_
 refine zfs ?_
 refine zg [.w, .no] [1, 5, 8, 9, 10] [] ((-9223372036854775808) ≤ (1 : Int) ∧ (1 : Int) ≤ 9223372036854775807) [(1, sV .i64 l n), (5, nV), (8, .e (.c (.d (D.sl [iD x] 1)))), (9, iV 1), (10, iV 1)] [] 0 ⟨by omega, by omega⟩ ?_
 refine AWr.s ?_
 refine zr [.b false] [1, 5, 8, 9, 10, 11] [] (¬ ((1 : Int) < 1)) [(1, sV .i64 l n), (5, nV), (8, .e (.c (.d (D.sl [iD x] 1)))), (9, iV 1), (10, iV 1), (11, bV false)] [] 0 zo ?_
 refine AW.seq ?_
 refine zf ?_
 refine AW.exit ?_
 refine zr [.no, .no] [4] [] True [(4, nV)] [] 0 trivial ?_
 refine AW.ret ?_
 exact EndP.of (.inr rfl) [] (P := ((.slice none 0 0 : Value) = .slice none 0 0)) zk rfl
theorem D_Com20 (x y : Int) (l : List Int) (n : Nat) (hn : List.length l = n) (hm : n ≤ 1000000) (h1 : idxK l x n < 0) (h2 : idxK l y n < 0) : Fun 99 [.c (.d (D.sl [iD x, iD y] 2)), .c (.d (D.sl (dI .i64 l) n))] (toG []) 0 (nV) (toG []) 0 := by
 refine Fun.mk (n := 24) Tryz.func99 rfl rfl (Nat.le_of_ble_eq_true rfl) ?_
 intro cx hcx
 refine zr [.no] [0, 1] [] True [(0, .e (.c (.d (D.sl [iD x, iD y] 2)))), (1, sV .i64 l n)] [] 0 trivial ?_
 refine zr [.no] [0, 1, 5] [] True [(0, .e (.c (.d (D.sl [iD x, iD y] 2)))), (1, sV .i64 l n), (5, nV)] [] 0 trivial ?_
 refine AW.seq ?_
 refine zr [.no, .no, .no] [1, 5, 8, 9, 10] [] True [(1, sV .i64 l n), (5, nV), (8, .e (.c (.d (D.sl [iD x, iD y] 2)))), (9, iV 2), (10, iV 0)] [] 0 trivial ?_
 refine AW.block ?_
 refine AW.rounds 3 ?_
 refine AWr.s ?_
 refine zr [.b true] [1, 5, 8, 9, 10, 11] [] (((0 : Int) < 2)) [(1, sV .i64 l n), (5, nV), (8, .e (.c (.d (D.sl [iD x, iD y] 2)))), (9, iV 2), (10, iV 0), (11, bV true)] [] 0 zo ?_
 refine AW.seq ?_
 refine zts ?_
 refine AW.seq ?_
 refine AW.block ?_
 refine zr [.n 0, .no, .no] [1, 5, 7, 8, 9, 10] [] (((0 : Int) = 0) ∧ ((0 : Nat) < 2)) [(1, sV .i64 l n), (5, nV), (7, iV x), (8, .e (.c (.d (D.sl [iD x, iD y] 2)))), (9, iV 2), (10, iV 0)] [] 0 ⟨rfl, zo⟩ ?_
 refine zr [.no, .no, .call [] (iV (idxK l x n)) [] 0 [] none, .b false] [1, 5, 7, 8, 9, 10, 17] [] ((_) ∧ (¬ ((0 : Int) ≤ (idxK l x n)))) [(1, sV .i64 l n), (5, nV), (7, iV x), (8, .e (.c (.d (D.sl [iD x, iD y] 2)))), (9, iV 2), (10, iV 0), (17, bV false)] [] 0 ⟨(C_Index l n x zo zo), zo⟩ ?_
 refine zfs ?_
 refine zg [.w, .no] [1, 5, 8, 9, 10] [] ((-9223372036854775808) ≤ (1 : Int) ∧ (1 : Int) ≤ 9223372036854775807) [(1, sV .i64 l n), (5, nV), (8, .e (.c (.d (D.sl [iD x, iD y] 2)))), (9, iV 2), (10, iV 1)] [] 0 ⟨by omega, by omega⟩ ?_
 refine AWr.s ?_
 refine zr [.b true] [1, 5, 8, 9, 10, 11] [] (((1 : Int) < 2)) [(1, sV .i64 l n), (5, nV), (8, .e (.c (.d (D.sl [iD x, iD y] 2)))), (9, iV 2), (10, iV 1), (11, bV true)] [] 0 zo ?_
 refine AW.seq ?_
 refine zts ?_
 refine AW.seq ?_
 refine AW.block ?_
 refine zr [.n 1, .no, .no] [1, 5, 7, 8, 9, 10] [] (((1 : Int) = 1) ∧ ((1 : Nat) < 2)) [(1, sV .i64 l n), (5, nV), (7, iV y), (8, .e (.c (.d (D.sl [iD x, iD y] 2)))), (9, iV 2), (10, iV 1)] [] 0 ⟨rfl, zo⟩ ?_
 refine zr [.no, .no, .call [] (iV (idxK l y n)) [] 0 [] none, .b false] [1, 5, 7, 8, 9, 10, 17] [] ((_) ∧ (¬ ((0 : Int) ≤ (idxK l y n)))) [(1, sV .i64 l n), (5, nV), (7, iV y), (8, .e (.c (.d (D.sl [iD x, iD y] 2)))), (9, iV 2), (10, iV 1), (17, bV false)] [] 0 ⟨(C_Index l n y zo zo), zo⟩ ?_
 refine zfs ?_
 refine zg [.w, .no] [1, 5, 8, 9, 10] [] ((-9223372036854775808) ≤ (2 : Int) ∧ (2 : Int) ≤ 9223372036854775807) [(1, sV .i64 l n), (5, nV), (8, .e (.c (.d (D.sl [iD x, iD y] 2)))), (9, iV 2), (10, iV 2)] [] 0 ⟨by omega, by omega⟩ ?_
 refine AWr.s ?_
 refine zr [.b false] [1, 5, 8, 9, 10, 11] [] (¬ ((2 : Int) < 2)) [(1, sV .i64 l n), (5, nV), (8, .e (.c (.d (D.sl [iD x, iD y] 2)))), (9, iV 2), (10, iV 2), (11, bV false)] [] 0 zo ?_
 refine AW.seq ?_
 refine zf ?_
 refine AW.exit ?_
 refine zr [.no, .no] [4] [] True [(4, nV)] [] 0 trivial ?_
 refine AW.ret ?_
 exact EndP.of (.inr rfl) [] (P := ((.slice none 0 0 : Value) = .slice none 0 0)) zk rfl
theorem D_Com21 (x y : Int) (l : List Int) (n : Nat) (hn : List.length l = n) (hm : n ≤ 1000000) (h1 : 0 ≤ idxK l x n) (h2 : idxK l y n < 0) : Fun 99 [.c (.d (D.sl [iD x, iD y] 2)), .c (.d (D.sl (dI .i64 l) n))] (toG []) 0 (oV 0 0 1 1) (toG [(0, some (3, .ds [iD x]))]) 1 := by
 refine Fun.mk (n := 24) Tryz.func99 rfl rfl (Nat.le_of_ble_eq_true rfl) ?_
 intro cx hcx
 refine zr [.no] [0, 1] [] True [(0, .e (.c (.d (D.sl [iD x, iD y] 2)))), (1, sV .i64 l n)] [] 0 trivial ?_
 refine zr [.no] [0, 1, 5] [] True [(0, .e (.c (.d (D.sl [iD x, iD y] 2)))), (1, sV .i64 l n), (5, nV)] [] 0 trivial ?_
 refine AW.seq ?_
 refine zr [.no, .no, .no] [1, 5, 8, 9, 10] [] True [(1, sV .i64 l n), (5, nV), (8, .e (.c (.d (D.sl [iD x, iD y] 2)))), (9, iV 2), (10, iV 0)] [] 0 trivial ?_
 refine AW.block ?_
 refine AW.rounds 3 ?_
 refine AWr.s ?_
 refine zr [.b true] [1, 5, 8, 9, 10, 11] [] (((0 : Int) < 2)) [(1, sV .i64 l n), (5, nV), (8, .e (.c (.d (D.sl [iD x, iD y] 2)))), (9, iV 2), (10, iV 0), (11, bV true)] [] 0 zo ?_
 refine AW.seq ?_
 refine zts ?_
 refine AW.seq ?_
 refine AW.block ?_
 refine zr [.n 0, .no, .no] [1, 5, 7, 8, 9, 10] [] (((0 : Int) = 0) ∧ ((0 : Nat) < 2)) [(1, sV .i64 l n), (5, nV), (7, iV x), (8, .e (.c (.d (D.sl [iD x, iD y] 2)))), (9, iV 2), (10, iV 0)] [] 0 ⟨rfl, zo⟩ ?_
 refine zr [.no, .no, .call [] (uV (ixN l x n)) [] 0 [] none, .b true] [1, 5, 7, 8, 9, 10, 17] [] ((_) ∧ (((0 : Int) ≤ (((ixN l x n) : Nat) : Int)))) [(1, sV .i64 l n), (5, nV), (7, iV x), (8, .e (.c (.d (D.sl [iD x, iD y] 2)))), (9, iV 2), (10, iV 0), (17, bV true)] [] 0 ⟨(C_IndexAt l n x zo zo zl07d1), zo⟩ ?_
 refine zt ?_
 refine zg [.no, .no, .no, .ap none 1 [iD x], .no] [1, 5, 8, 9, 10] [1] (([iD x].length = 1 * 1) ∧ ((1 : Nat) * 8 ≤ 140737488355328) ∧ ((1 : Nat) = 1) ∧ (([iD x] : List D) = [iD x])) [(1, sV .i64 l n), (5, oV 1 0 1 1), (8, .e (.c (.d (D.sl [iD x, iD y] 2)))), (9, iV 2), (10, iV 0)] [(1, some (3, .ds [iD x]))] 2 ⟨zl07d2, zo, rfl, rfl⟩ ?_
 refine zg [.w, .no] [1, 5, 8, 9, 10] [1] ((-9223372036854775808) ≤ (1 : Int) ∧ (1 : Int) ≤ 9223372036854775807) [(1, sV .i64 l n), (5, oV 1 0 1 1), (8, .e (.c (.d (D.sl [iD x, iD y] 2)))), (9, iV 2), (10, iV 1)] [(1, some (3, .ds [iD x]))] 2 ⟨by omega, by omega⟩ ?_
 refine AWr.s ?_
 refine zr [.b true] [1, 5, 8, 9, 10, 11] [1] (((1 : Int) < 2)) [(1, sV .i64 l n), (5, oV 1 0 1 1), (8, .e (.c (.d (D.sl [iD x, iD y] 2)))), (9, iV 2), (10, iV 1), (11, bV true)] [(1, some (3, .ds [iD x]))] 2 zo ?_
 refine AW.seq ?_
 refine zts ?_
 refine AW.seq ?_
 refine AW.block ?_
 refine zr [.n 1, .no, .no] [1, 5, 7, 8, 9, 10] [1] (((1 : Int) = 1) ∧ ((1 : Nat) < 2)) [(1, sV .i64 l n), (5, oV 1 0 1 1), (7, iV y), (8, .e (.c (.d (D.sl [iD x, iD y] 2)))), (9, iV 2), (10, iV 1)] [(1, some (3, .ds [iD x]))] 2 ⟨rfl, zo⟩ ?_
 refine zr [.no, .no, .call [] (iV (idxK l y n)) [] 0 [] none, .b false] [1, 5, 7, 8, 9, 10, 17] [1] ((_) ∧ (¬ ((0 : Int) ≤ (idxK l y n)))) [(1, sV .i64 l n), (5, oV 1 0 1 1), (7, iV y), (8, .e (.c (.d (D.sl [iD x, iD y] 2)))), (9, iV 2), (10, iV 1), (17, bV false)] [(1, some (3, .ds [iD x]))] 2 ⟨(C_Index l n y zo zo), zo⟩ ?_
 refine zfs ?_
 refine zg [.w, .no] [1, 5, 8, 9, 10] [1] ((-9223372036854775808) ≤ (2 : Int) ∧ (2 : Int) ≤ 9223372036854775807) [(1, sV .i64 l n), (5, oV 1 0 1 1), (8, .e (.c (.d (D.sl [iD x, iD y] 2)))), (9, iV 2), (10, iV 2)] [(1, some (3, .ds [iD x]))] 2 ⟨by omega, by omega⟩ ?_
 refine AWr.s ?_
 refine zr [.b false] [1, 5, 8, 9, 10, 11] [1] (¬ ((2 : Int) < 2)) [(1, sV .i64 l n), (5, oV 1 0 1 1), (8, .e (.c (.d (D.sl [iD x, iD y] 2)))), (9, iV 2), (10, iV 2), (11, bV false)] [(1, some (3, .ds [iD x]))] 2 zo ?_
 refine AW.seq ?_
 refine zf ?_
 refine AW.exit ?_
 refine zr [.no, .no] [4] [1] True [(4, oV 1 0 1 1)] [(1, some (3, .ds [iD x]))] 2 trivial ?_
 refine AW.ret ?_
 exact EndP.of (.inr rfl) [(0, 1)] (P := ((0 : Nat) = 0) ∧ ((1 : Nat) = 1) ∧ (([iD x] : List D) = [iD x])) zk ⟨rfl, rfl, rfl⟩
theorem D_Com22 (x y : Int) (l : List Int) (n : Nat) (hn : List.length l = n) (hm : n ≤ 1000000) (h1 : idxK l x n < 0) (h2 : 0 ≤ idxK l y n) : Fun 99 [.c (.d (D.sl [iD x, iD y] 2)), .c (.d (D.sl (dI .i64 l) n))] (toG []) 0 (oV 0 0 1 1) (toG [(0, some (3, .ds [iD y]))]) 1 := by
 refine Fun.mk (n := 24) Tryz.func99 rfl rfl (Nat.le_of_ble_eq_true rfl) ?_
 intro cx hcx
 refine zr [.no] [0, 1] [] True [(0, .e (.c (.d (D.sl [iD x, iD y] 2)))), (1, sV .i64 l n)] [] 0 trivial ?_
 refine zr [.no] [0, 1, 5] [] True [(0, .e (.c (.d (D.sl [iD x, iD y] 2)))), (1, sV .i64 l n), (5, nV)] [] 0 trivial ?_
 refine AW.seq ?_
 refine zr [.no, .no, .no] [1, 5, 8, 9, 10] [] True [(1, sV .i64 l n), (5, nV), (8, .e (.c (.d (D.sl [iD x, iD y] 2)))), (9, iV 2), (10, iV 0)] [] 0 trivial ?_
 refine AW.block ?_
 refine AW.rounds 3 ?_
 refine AWr.s ?_
 refine zr [.b true] [1, 5, 8, 9, 10, 11] [] (((0 : Int) < 2)) [(1, sV .i64 l n), (5, nV), (8, .e (.c (.d (D.sl [iD x, iD y] 2)))), (9, iV 2), (10, iV 0), (11, bV true)] [] 0 zo ?_
 refine AW.seq ?_
 refine zts ?_
 refine AW.seq ?_
 refine AW.block ?_
 refine zr [.n 0, .no, .no] [1, 5, 7, 8, 9, 10] [] (((0 : Int) = 0) ∧ ((0 : Nat) < 2)) [(1, sV .i64 l n), (5, nV), (7, iV x), (8, .e (.c (.d (D.sl [iD x, iD y] 2)))), (9, iV 2), (10, iV 0)] [] 0 ⟨rfl, zo⟩ ?_
 refine zr [.no, .no, .call [] (iV (idxK l x n)) [] 0 [] none, .b false] [1, 5, 7, 8, 9, 10, 17] [] ((_) ∧ (¬ ((0 : Int) ≤ (idxK l x n)))) [(1, sV .i64 l n), (5, nV), (7, iV x), (8, .e (.c (.d (D.sl [iD x, iD y] 2)))), (9, iV 2), (10, iV 0), (17, bV false)] [] 0 ⟨(C_Index l n x zo zo), zo⟩ ?_
 refine zfs ?_
 refine zg [.w, .no] [1, 5, 8, 9, 10] [] ((-9223372036854775808) ≤ (1 : Int) ∧ (1 : Int) ≤ 9223372036854775807) [(1, sV .i64 l n), (5, nV), (8, .e (.c (.d (D.sl [iD x, iD y] 2)))), (9, iV 2), (10, iV 1)] [] 0 ⟨by omega, by omega⟩ ?_
 refine AWr.s ?_
 refine zr [.b true] [1, 5, 8, 9, 10, 11] [] (((1 : Int) < 2)) [(1, sV .i64 l n), (5, nV), (8, .e (.c (.d (D.sl [iD x, iD y] 2)))), (9, iV 2), (10, iV 1), (11, bV true)] [] 0 zo ?_
 refine AW.seq ?_
 refine zts ?_
 refine AW.seq ?_
 refine AW.block ?_
 refine zr [.n 1, .no, .no] [1, 5, 7, 8, 9, 10] [] (((1 : Int) = 1) ∧ ((1 : Nat) < 2)) [(1, sV .i64 l n), (5, nV), (7, iV y), (8, .e (.c (.d (D.sl [iD x, iD y] 2)))), (9, iV 2), (10, iV 1)] [] 0 ⟨rfl, zo⟩ ?_
 refine zr [.no, .no, .call [] (uV (ixN l y n)) [] 0 [] none, .b true] [1, 5, 7, 8, 9, 10, 17] [] ((_) ∧ (((0 : Int) ≤ (((ixN l y n) : Nat) : Int)))) [(1, sV .i64 l n), (5, nV), (7, iV y), (8, .e (.c (.d (D.sl [iD x, iD y] 2)))), (9, iV 2), (10, iV 1), (17, bV true)] [] 0 ⟨(C_IndexAt l n y zo zo zl07d1), zo⟩ ?_
 refine zt ?_
 refine zg [.no, .no, .no, .ap none 1 [iD y], .no] [1, 5, 8, 9, 10] [1] (([iD y].length = 1 * 1) ∧ ((1 : Nat) * 8 ≤ 140737488355328) ∧ ((1 : Nat) = 1) ∧ (([iD y] : List D) = [iD y])) [(1, sV .i64 l n), (5, oV 1 0 1 1), (8, .e (.c (.d (D.sl [iD x, iD y] 2)))), (9, iV 2), (10, iV 1)] [(1, some (3, .ds [iD y]))] 2 ⟨zl07d2, zo, rfl, rfl⟩ ?_
 refine zg [.w, .no] [1, 5, 8, 9, 10] [1] ((-9223372036854775808) ≤ (2 : Int) ∧ (2 : Int) ≤ 9223372036854775807) [(1, sV .i64 l n), (5, oV 1 0 1 1), (8, .e (.c (.d (D.sl [iD x, iD y] 2)))), (9, iV 2), (10, iV 2)] [(1, some (3, .ds [iD y]))] 2 ⟨by omega, by omega⟩ ?_
 refine AWr.s ?_
 refine zr [.b false] [1, 5, 8, 9, 10, 11] [1] (¬ ((2 : Int) < 2)) [(1, sV .i64 l n), (5, oV 1 0 1 1), (8, .e (.c (.d (D.sl [iD x, iD y] 2)))), (9, iV 2), (10, iV 2), (11, bV false)] [(1, some (3, .ds [iD y]))] 2 zo ?_
 refine AW.seq ?_
 refine zf ?_
 refine AW.exit ?_
 refine zr [.no, .no] [4] [1] True [(4, oV 1 0 1 1)] [(1, some (3, .ds [iD y]))] 2 trivial ?_
 refine AW.ret ?_
 exact EndP.of (.inr rfl) [(0, 1)] (P := ((0 : Nat) = 0) ∧ ((1 : Nat) = 1) ∧ (([iD y] : List D) = [iD y])) zk ⟨rfl, rfl, rfl⟩
theorem D_Com23 (x y : Int) (l : List Int) (n : Nat) (hn : List.length l = n) (hm : n ≤ 1000000) (h1 : 0 ≤ idxK l x n) (h2 : 0 ≤ idxK l y n) : Fun 99 [.c (.d (D.sl [iD x, iD y] 2)), .c (.d (D.sl (dI .i64 l) n))] (toG []) 0 (oV 0 0 2 1) (toG [(0, some (3, .ds [iD x, iD y]))]) 1 := by
 refine Fun.mk (n := 24) Tryz.func99 rfl rfl (Nat.le_of_ble_eq_true rfl) ?_
 intro cx hcx
 refine zr [.no] [0, 1] [] True [(0, .e (.c (.d (D.sl [iD x, iD y] 2)))), (1, sV .i64 l n)] [] 0 trivial ?_
 refine zr [.no] [0, 1, 5] [] True [(0, .e (.c (.d (D.sl [iD x, iD y] 2)))), (1, sV .i64 l n), (5, nV)] [] 0 trivial ?_
 refine AW.seq ?_
 refine zr [.no, .no, .no] [1, 5, 8, 9, 10] [] True [(1, sV .i64 l n), (5, nV), (8, .e (.c (.d (D.sl [iD x, iD y] 2)))), (9, iV 2), (10, iV 0)] [] 0 trivial ?_
 refine AW.block ?_
 refine AW.rounds 3 ?_
 refine AWr.s ?_
 refine zr [.b true] [1, 5, 8, 9, 10, 11] [] (((0 : Int) < 2)) [(1, sV .i64 l n), (5, nV), (8, .e (.c (.d (D.sl [iD x, iD y] 2)))), (9, iV 2), (10, iV 0), (11, bV true)] [] 0 zo ?_
 refine AW.seq ?_
 refine zts ?_
 refine AW.seq ?_
 refine AW.block ?_
 refine zr [.n 0, .no, .no] [1, 5, 7, 8, 9, 10] [] (((0 : Int) = 0) ∧ ((0 : Nat) < 2)) [(1, sV .i64 l n), (5, nV), (7, iV x), (8, .e (.c (.d (D.sl [iD x, iD y] 2)))), (9, iV 2), (10, iV 0)] [] 0 ⟨rfl, zo⟩ ?_
 refine zr [.no, .no, .call [] (uV (ixN l x n)) [] 0 [] none, .b true] [1, 5, 7, 8, 9, 10, 17] [] ((_) ∧ (((0 : Int) ≤ (((ixN l x n) : Nat) : Int)))) [(1, sV .i64 l n), (5, nV), (7, iV x), (8, .e (.c (.d (D.sl [iD x, iD y] 2)))), (9, iV 2), (10, iV 0), (17, bV true)] [] 0 ⟨(C_IndexAt l n x zo zo zl07d1), zo⟩ ?_
 refine zt ?_
 refine zg [.no, .no, .no, .ap none 1 [iD x], .no] [1, 5, 8, 9, 10] [1] (([iD x].length = 1 * 1) ∧ ((1 : Nat) * 8 ≤ 140737488355328) ∧ ((1 : Nat) = 1) ∧ (([iD x] : List D) = [iD x])) [(1, sV .i64 l n), (5, oV 1 0 1 1), (8, .e (.c (.d (D.sl [iD x, iD y] 2)))), (9, iV 2), (10, iV 0)] [(1, some (3, .ds [iD x]))] 2 ⟨zl07d2, zo, rfl, rfl⟩ ?_
 refine zg [.w, .no] [1, 5, 8, 9, 10] [1] ((-9223372036854775808) ≤ (1 : Int) ∧ (1 : Int) ≤ 9223372036854775807) [(1, sV .i64 l n), (5, oV 1 0 1 1), (8, .e (.c (.d (D.sl [iD x, iD y] 2)))), (9, iV 2), (10, iV 1)] [(1, some (3, .ds [iD x]))] 2 ⟨by omega, by omega⟩ ?_
 refine AWr.s ?_
 refine zr [.b true] [1, 5, 8, 9, 10, 11] [1] (((1 : Int) < 2)) [(1, sV .i64 l n), (5, oV 1 0 1 1), (8, .e (.c (.d (D.sl [iD x, iD y] 2)))), (9, iV 2), (10, iV 1), (11, bV true)] [(1, some (3, .ds [iD x]))] 2 zo ?_
 refine AW.seq ?_
 refine zts ?_
 refine AW.seq ?_
 refine AW.block ?_
 refine zr [.n 1, .no, .no] [1, 5, 7, 8, 9, 10] [1] (((1 : Int) = 1) ∧ ((1 : Nat) < 2)) [(1, sV .i64 l n), (5, oV 1 0 1 1), (7, iV y), (8, .e (.c (.d (D.sl [iD x, iD y] 2)))), (9, iV 2), (10, iV 1)] [(1, some (3, .ds [iD x]))] 2 ⟨rfl, zo⟩ ?_
 refine zr [.no, .no, .call [] (uV (ixN l y n)) [] 0 [] none, .b true] [1, 5, 7, 8, 9, 10, 17] [1] ((_) ∧ (((0 : Int) ≤ (((ixN l y n) : Nat) : Int)))) [(1, sV .i64 l n), (5, oV 1 0 1 1), (7, iV y), (8, .e (.c (.d (D.sl [iD x, iD y] 2)))), (9, iV 2), (10, iV 1), (17, bV true)] [(1, some (3, .ds [iD x]))] 2 ⟨(C_IndexAt l n y zo zo zl07d1), zo⟩ ?_
 refine zt ?_
 refine zg [.no, .no, .no, .ap none 2 [iD x, iD y], .no] [1, 5, 8, 9, 10] [3] (([iD y].length = 1 * 1) ∧ (([iD x] : List D).length = 1 * 1) ∧ ((1 + 1) * 8 ≤ 140737488355328) ∧ ((1 : Nat) + 1 = 2) ∧ (([iD x] : List D) ++ [iD y] = [iD x, iD y])) [(1, sV .i64 l n), (5, oV 3 0 2 1), (8, .e (.c (.d (D.sl [iD x, iD y] 2)))), (9, iV 2), (10, iV 1)] [(3, some (3, .ds [iD x, iD y]))] 4 ⟨zl07d2, zl07d2, zo, zo, rfl⟩ ?_
 refine zg [.w, .no] [1, 5, 8, 9, 10] [3] ((-9223372036854775808) ≤ (2 : Int) ∧ (2 : Int) ≤ 9223372036854775807) [(1, sV .i64 l n), (5, oV 3 0 2 1), (8, .e (.c (.d (D.sl [iD x, iD y] 2)))), (9, iV 2), (10, iV 2)] [(3, some (3, .ds [iD x, iD y]))] 4 ⟨by omega, by omega⟩ ?_
 refine AWr.s ?_
 refine zr [.b false] [1, 5, 8, 9, 10, 11] [3] (¬ ((2 : Int) < 2)) [(1, sV .i64 l n), (5, oV 3 0 2 1), (8, .e (.c (.d (D.sl [iD x, iD y] 2)))), (9, iV 2), (10, iV 2), (11, bV false)] [(3, some (3, .ds [iD x, iD y]))] 4 zo ?_
 refine AW.seq ?_
 refine zf ?_
 refine AW.exit ?_
 refine zr [.no, .no] [4] [3] True [(4, oV 3 0 2 1)] [(3, some (3, .ds [iD x, iD y]))] 4 trivial ?_
 refine AW.ret ?_
 exact EndP.of (.inr rfl) [(0, 3)] (P := ((0 : Nat) = 0) ∧ ((2 : Nat) = 2) ∧ (([iD x, iD y] : List D) = [iD x, iD y])) zk ⟨rfl, rfl, rfl⟩
theorem D_rCom1h (x : Int) (l : List Int) (n : Nat) (hn : List.length l = n) (hm : n ≤ 1000000) (h1 : 0 ≤ idxK l x n) : Fun 65 [.c (.d (D.sl [iD x] 1)), .c (.d (D.sl (dI .i64 l) n))] (toG []) 0 (oV 0 0 1 1) (toG [(0, some (3, .ds [iD x]))]) 1 := by
 refine Fun.mk (n := 24) Tryz.func65 rfl rfl (Nat.le_of_ble_eq_true rfl) ?_
 intro cx hcx
 refine zr [.no] [0, 1] [] True [(0, .e (.c (.d (D.sl [iD x] 1)))), (1, sV .i64 l n)] [] 0 trivial ?_
 refine zr [.no] [0, 1, 5] [] True [(0, .e (.c (.d (D.sl [iD x] 1)))), (1, sV .i64 l n), (5, nV)] [] 0 trivial ?_
 refine AW.seq ?_
 refine zr [.no, .no, .no] [1, 5, 8, 9, 10] [] True [(1, sV .i64 l n), (5, nV), (8, .e (.c (.d (D.sl [iD x] 1)))), (9, iV 1), (10, iV 0)] [] 0 trivial ?_
 refine AW.block ?_
 refine AW.rounds 2 ?_
 refine AWr.s ?_
 refine zr [.b true] [1, 5, 8, 9, 10, 11] [] (((0 : Int) < 1)) [(1, sV .i64 l n), (5, nV), (8, .e (.c (.d (D.sl [iD x] 1)))), (9, iV 1), (10, iV 0), (11, bV true)] [] 0 zo ?_
 refine AW.seq ?_
 refine zts ?_
 refine AW.seq ?_
 refine AW.block ?_
 refine zr [.n 0, .no, .no] [1, 5, 7, 8, 9, 10] [] (((0 : Int) = 0) ∧ ((0 : Nat) < 1)) [(1, sV .i64 l n), (5, nV), (7, iV x), (8, .e (.c (.d (D.sl [iD x] 1)))), (9, iV 1), (10, iV 0)] [] 0 ⟨rfl, zo⟩ ?_
 refine zr [.no, .no, .call [] (uV (ixN l x n)) [] 0 [] none, .b true] [1, 5, 7, 8, 9, 10, 17] [] ((_) ∧ (((0 : Int) ≤ (((ixN l x n) : Nat) : Int)))) [(1, sV .i64 l n), (5, nV), (7, iV x), (8, .e (.c (.d (D.sl [iD x] 1)))), (9, iV 1), (10, iV 0), (17, bV true)] [] 0 ⟨(C_rIndexAt l n x zo zo zl07d1), zo⟩ ?_
 refine zt ?_
 refine zg [.no, .no, .no, .ap none 1 [iD x], .no] [1, 5, 8, 9, 10] [1] (([iD x].length = 1 * 1) ∧ ((1 : Nat) * 8 ≤ 140737488355328) ∧ ((1 : Nat) = 1) ∧ (([iD x] : List D) = [iD x])) [(1, sV .i64 l n), (5, oV 1 0 1 1), (8, .e (.c (.d (D.sl [iD x] 1)))), (9, iV 1), (10, iV 0)] [(1, some (3, .ds [iD x]))] 2 ⟨zl07d2, zo, rfl, rfl⟩ ?_
 refine zg [.w, .no] [1, 5, 8, 9, 10] [1] ((-9223372036854775808) ≤ (1 : Int) ∧ (1 : Int) ≤ 9223372036854775807) [(1, sV .i64 l n), (5, oV 1 0 1 1), (8, .e (.c (.d (D.sl [iD x] 1)))), (9, iV 1), (10, iV 1)] [(1, some (3, .ds [iD x]))] 2 ⟨by omega, by omega⟩ ?_
 refine AWr.s ?_
 refine zr [.b false] [1, 5, 8, 9, 10, 11] [1] (¬ ((1 : Int) < 1)) [(1, sV .i64 l n), (5, oV 1 0 1 1), (8, .e (.c (.d (D.sl [iD x] 1)))), (9, iV 1), (10, iV 1), (11, bV false)] [(1, some (3, .ds [iD x]))] 2 zo ?_
 refine AW.seq ?_
 refine zf ?_
 refine AW.exit ?_
 refine zr [.no, .no] [4] [1] True [(4, oV 1 0 1 1)] [(1, some (3, .ds [iD x]))] 2 trivial ?_
 refine AW.ret ?_
 exact EndP.of (.inr rfl) [(0, 1)] (P := ((0 : Nat) = 0) ∧ ((1 : Nat) = 1) ∧ (([iD x] : List D) = [iD x])) zk ⟨rfl, rfl, rfl⟩
theorem D_rCom1m (x : Int) (l : List Int) (n : Nat) (hn : List.length l = n) (hm : n ≤ 1000000) (h1 : idxK l x n < 0) : Fun 65 [.c (.d (D.sl [iD x] 1)), .c (.d (D.sl (dI .i64 l) n))] (toG []) 0 (nV) (toG []) 0 := by
 refine Fun.mk (n := 24) Tryz.func65 rfl rfl (Nat.le_of_ble_eq_true rfl) ?_
 intro cx hcx
 refine zr [.no] [0, 1] [] True [(0, .e (.c (.d (D.sl [iD x] 1)))), (1, sV .i64 l n)] [] 0 trivial ?_
 refine zr [.no] [0, 1, 5] [] True [(0, .e (.c (.d (D.sl [iD x] 1)))), (1, sV .i64 l n), (5, nV)] [] 0 trivial ?_
 refine AW.seq ?_
 refine zr [.no, .no, .no] [1, 5, 8, 9, 10] [] True [(1, sV .i64 l n), (5, nV), (8, .e (.c (.d (D.sl [iD x] 1)))), (9, iV 1), (10, iV 0)] [] 0 trivial ?_
 refine AW.block ?_
 refine AW.rounds 2 ?_
 refine AWr.s ?_
 refine zr [.b true] [1, 5, 8, 9, 10, 11] [] (((0 : Int) < 1)) [(1, sV .i64 l n), (5, nV), (8, .e (.c (.d (D.sl [iD x] 1)))), (9, iV 1), (10, iV 0), (11, bV true)] [] 0 zo ?_
 refine AW.seq ?_
 refine zts ?_
 refine AW.seq ?_
 refine AW.block ?_
 refine zr [.n 0, .no, .no] [1, 5, 7, 8, 9, 10] [] (((0 : Int) = 0) ∧ ((0 : Nat) < 1)) [(1, sV .i64 l n), (5, nV), (7, iV x), (8, .e (.c (.d (D.sl [iD x] 1)))), (9, iV 1), (10, iV 0)] [] 0 ⟨rfl, zo⟩ ?_
 refine zr [.no, .no, .call [] (iV (idxK l x n)) [] 0 [] none, .b false] [1, 5, 7, 8, 9, 10, 17] [] ((_) ∧ (¬ ((0 : Int) ≤ (idxK l x n)))) [(1, sV .i64 l n), (5, nV), (7, iV x), (8, .e (.c (.d (D.sl [iD x] 1)))), (9, iV 1), (10, iV 0), (17, bV false)] [] 0 ⟨(C_rIndex l n x zo zo), zo⟩ ?_
 refine zfs ?_
 refine zg [.w, .no] [1, 5, 8, 9, 10] [] ((-9223372036854775808) ≤ (1 : Int) ∧ (1 : Int) ≤ 9223372036854775807) [(1, sV .i64 l n), (5, nV), (8, .e (.c (.d (D.sl [iD x] 1)))), (9, iV 1), (10, iV 1)] [] 0 ⟨by omega, by omega⟩ ?_
 refine AWr.s ?_
 refine zr [.b false] [1, 5, 8, 9, 10, 11] [] (¬ ((1 : Int) < 1)) [(1, sV .i64 l n), (5, nV), (8, .e (.c (.d (D.sl [iD x] 1)))), (9, iV 1), (10, iV 1), (11, bV false)] [] 0 zo ?_
 refine AW.seq ?_
 refine zf ?_
 refine AW.exit ?_
 refine zr [.no, .no] [4] [] True [(4, nV)] [] 0 trivial ?_
 refine AW.ret ?_
 exact EndP.of (.inr rfl) [] (P := ((.slice none 0 0 : Value) = .slice none 0 0)) zk rfl
theorem D_rCom20 (x y : Int) (l : List Int) (n : Nat) (hn : List.length l = n) (hm : n ≤ 1000000) (h1 : idxK l x n < 0) (h2 : idxK l y n < 0) : Fun 65 [.c (.d (D.sl [iD x, iD y] 2)), .c (.d (D.sl (dI .i64 l) n))] (toG []) 0 (nV) (toG []) 0 := by
 refine Fun.mk (n := 24) Tryz.func65 rfl rfl (Nat.le_of_ble_eq_true rfl) ?_
 intro cx hcx
 refine zr [.no] [0, 1] [] True [(0, .e (.c (.d (D.sl [iD x, iD y] 2)))), (1, sV .i64 l n)] [] 0 trivial ?_
 refine zr [.no] [0, 1, 5] [] True [(0, .e (.c (.d (D.sl [iD x, iD y] 2)))), (1, sV .i64 l n), (5, nV)] [] 0 trivial ?_
 refine AW.seq ?_
 refine zr [.no, .no, .no] [1, 5, 8, 9, 10] [] True [(1, sV .i64 l n), (5, nV), (8, .e (.c (.d (D.sl [iD x, iD y] 2)))), (9, iV 2), (10, iV 0)] [] 0 trivial ?_
 refine AW.block ?_
 refine AW.rounds 3 ?_
 refine AWr.s ?_
 refine zr [.b true] [1, 5, 8, 9, 10, 11] [] (((0 : Int) < 2)) [(1, sV .i64 l n), (5, nV), (8, .e (.c (.d (D.sl [iD x, iD y] 2)))), (9, iV 2), (10, iV 0), (11, bV true)] [] 0 zo ?_
 refine AW.seq ?_
 refine zts ?_
 refine AW.seq ?_
 refine AW.block ?_
 refine zr [.n 0, .no, .no] [1, 5, 7, 8, 9, 10] [] (((0 : Int) = 0) ∧ ((0 : Nat) < 2)) [(1, sV .i64 l n), (5, nV), (7, iV x), (8, .e (.c (.d (D.sl [iD x, iD y] 2)))), (9, iV 2), (10, iV 0)] [] 0 ⟨rfl, zo⟩ ?_
 refine zr [.no, .no, .call [] (iV (idxK l x n)) [] 0 [] none, .b false] [1, 5, 7, 8, 9, 10, 17] [] ((_) ∧ (¬ ((0 : Int) ≤ (idxK l x n)))) [(1, sV .i64 l n), (5, nV), (7, iV x), (8, .e (.c (.d (D.sl [iD x, iD y] 2)))), (9, iV 2), (10, iV 0), (17, bV false)] [] 0 ⟨(C_rIndex l n x zo zo), zo⟩ ?_
 refine zfs ?_
 refine zg [.w, .no] [1, 5, 8, 9, 10] [] ((-9223372036854775808) ≤ (1 : Int) ∧ (1 : Int) ≤ 9223372036854775807) [(1, sV .i64 l n), (5, nV), (8, .e (.c (.d (D.sl [iD x, iD y] 2)))), (9, iV 2), (10, iV 1)] [] 0 ⟨by omega, by omega⟩ ?_
 refine AWr.s ?_
 refine zr [.b true] [1, 5, 8, 9, 10, 11] [] (((1 : Int) < 2)) [(1, sV .i64 l n), (5, nV), (8, .e (.c (.d (D.sl [iD x, iD y] 2)))), (9, iV 2), (10, iV 1), (11, bV true)] [] 0 zo ?_
 refine AW.seq ?_
 refine zts ?_
 refine AW.seq ?_
 refine AW.block ?_
 refine zr [.n 1, .no, .no] [1, 5, 7, 8, 9, 10] [] (((1 : Int) = 1) ∧ ((1 : Nat) < 2)) [(1, sV .i64 l n), (5, nV), (7, iV y), (8, .e (.c (.d (D.sl [iD x, iD y] 2)))), (9, iV 2), (10, iV 1)] [] 0 ⟨rfl, zo⟩ ?_
 refine zr [.no, .no, .call [] (iV (idxK l y n)) [] 0 [] none, .b false] [1, 5, 7, 8, 9, 10, 17] [] ((_) ∧ (¬ ((0 : Int) ≤ (idxK l y n)))) [(1, sV .i64 l n), (5, nV), (7, iV y), (8, .e (.c (.d (D.sl [iD x, iD y] 2)))), (9, iV 2), (10, iV 1), (17, bV false)] [] 0 ⟨(C_rIndex l n y zo zo), zo⟩ ?_
 refine zfs ?_
 refine zg [.w, .no] [1, 5, 8, 9, 10] [] ((-9223372036854775808) ≤ (2 : Int) ∧ (2 : Int) ≤ 9223372036854775807) [(1, sV .i64 l n), (5, nV), (8, .e (.c (.d (D.sl [iD x, iD y] 2)))), (9, iV 2), (10, iV 2)] [] 0 ⟨by omega, by omega⟩ ?_
 refine AWr.s ?_
 refine zr [.b false] [1, 5, 8, 9, 10, 11] [] (¬ ((2 : Int) < 2)) [(1, sV .i64 l n), (5, nV), (8, .e (.c (.d (D.sl [iD x, iD y] 2)))), (9, iV 2), (10, iV 2), (11, bV false)] [] 0 zo ?_
 refine AW.seq ?_
 refine zf ?_
 refine AW.exit ?_
 refine zr [.no, .no] [4] [] True [(4, nV)] [] 0 trivial ?_
 refine AW.ret ?_
 exact EndP.of (.inr rfl) [] (P := ((.slice none 0 0 : Value) = .slice none 0 0)) zk rfl
theorem D_rCom21 (x y : Int) (l : List Int) (n : Nat) (hn : List.length l = n) (hm : n ≤ 1000000) (h1 : 0 ≤ idxK l x n) (h2 : idxK l y n < 0) : Fun 65 [.c (.d (D.sl [iD x, iD y] 2)), .c (.d (D.sl (dI .i64 l) n))] (toG []) 0 (oV 0 0 1 1) (toG [(0, some (3, .ds [iD x]))]) 1 := by
 refine Fun.mk (n := 24) Tryz.func65 rfl rfl (Nat.le_of_ble_eq_true rfl) ?_
 intro cx hcx
 refine zr [.no] [0, 1] [] True [(0, .e (.c (.d (D.sl [iD x, iD y] 2)))), (1, sV .i64 l n)] [] 0 trivial ?_
 refine zr [.no] [0, 1, 5] [] True [(0, .e (.c (.d (D.sl [iD x, iD y] 2)))), (1, sV .i64 l n), (5, nV)] [] 0 trivial ?_
 refine AW.seq ?_
 refine zr [.no, .no, .no] [1, 5, 8, 9, 10] [] True [(1, sV .i64 l n), (5, nV), (8, .e (.c (.d (D.sl [iD x, iD y] 2)))), (9, iV 2), (10, iV 0)] [] 0 trivial ?_
 refine AW.block ?_
 refine AW.rounds 3 ?_
 refine AWr.s ?_
 refine zr [.b true] [1, 5, 8, 9, 10, 11] [] (((0 : Int) < 2)) [(1, sV .i64 l n), (5, nV), (8, .e (.c (.d (D.sl [iD x, iD y] 2)))), (9, iV 2), (10, iV 0), (11, bV true)] [] 0 zo ?_
 refine AW.seq ?_
 refine zts ?_
 refine AW.seq ?_
 refine AW.block ?_
 refine zr [.n 0, .no, .no] [1, 5, 7, 8, 9, 10] [] (((0 : Int) = 0) ∧ ((0 : Nat) < 2)) [(1, sV .i64 l n), (5, nV), (7, iV x), (8, .e (.c (.d (D.sl [iD x, iD y] 2)))), (9, iV 2), (10, iV 0)] [] 0 ⟨rfl, zo⟩ ?_
 refine zr [.no, .no, .call [] (uV (ixN l x n)) [] 0 [] none, .b true] [1, 5, 7, 8, 9, 10, 17] [] ((_) ∧ (((0 : Int) ≤ (((ixN l x n) : Nat) : Int)))) [(1, sV .i64 l n), (5, nV), (7, iV x), (8, .e (.c (.d (D.sl [iD x, iD y] 2)))), (9, iV 2), (10, iV 0), (17, bV true)] [] 0 ⟨(C_rIndexAt l n x zo zo zl07d1), zo⟩ ?_
 refine zt ?_
 refine zg [.no, .no, .no, .ap none 1 [iD x], .no] [1, 5, 8, 9, 10] [1] (([iD x].length = 1 * 1) ∧ ((1 : Nat) * 8 ≤ 140737488355328) ∧ ((1 : Nat) = 1) ∧ (([iD x] : List D) = [iD x])) [(1, sV .i64 l n), (5, oV 1 0 1 1), (8, .e (.c (.d (D.sl [iD x, iD y] 2)))), (9, iV 2), (10, iV 0)] [(1, some (3, .ds [iD x]))] 2 ⟨zl07d2, zo, rfl, rfl⟩ ?_
 refine zg [.w, .no] [1, 5, 8, 9, 10] [1] ((-9223372036854775808) ≤ (1 : Int) ∧ (1 : Int) ≤ 9223372036854775807) [(1, sV .i64 l n), (5, oV 1 0 1 1), (8, .e (.c (.d (D.sl [iD x, iD y] 2)))), (9, iV 2), (10, iV 1)] [(1, some (3, .ds [iD x]))] 2 ⟨by omega, by omega⟩ ?_
 refine AWr.s ?_
 refine zr [.b true] [1, 5, 8, 9, 10, 11] [1] (((1 : Int) < 2)) [(1, sV .i64 l n), (5, oV 1 0 1 1), (8, .e (.c (.d (D.sl [iD x, iD y] 2)))), (9, iV 2), (10, iV 1), (11, bV true)] [(1, some (3, .ds [iD x]))] 2 zo ?_
 refine AW.seq ?_
 refine zts ?_
 refine AW.seq ?_
 refine AW.block ?_
 refine zr [.n 1, .no, .no] [1, 5, 7, 8, 9, 10] [1] (((1 : Int) = 1) ∧ ((1 : Nat) < 2)) [(1, sV .i64 l n), (5, oV 1 0 1 1), (7, iV y), (8, .e (.c (.d (D.sl [iD x, iD y] 2)))), (9, iV 2), (10, iV 1)] [(1, some (3, .ds [iD x]))] 2 ⟨rfl, zo⟩ ?_
 refine zr [.no, .no, .call [] (iV (idxK l y n)) [] 0 [] none, .b false] [1, 5, 7, 8, 9, 10, 17] [1] ((_) ∧ (¬ ((0 : Int) ≤ (idxK l y n)))) [(1, sV .i64 l n), (5, oV 1 0 1 1), (7, iV y), (8, .e (.c (.d (D.sl [iD x, iD y] 2)))), (9, iV 2), (10, iV 1), (17, bV false)] [(1, some (3, .ds [iD x]))] 2 ⟨(C_rIndex l n y zo zo), zo⟩ ?_
 refine zfs ?_
 refine zg [.w, .no] [1, 5, 8, 9, 10] [1] ((-9223372036854775808) ≤ (2 : Int) ∧ (2 : Int) ≤ 9223372036854775807) [(1, sV .i64 l n), (5, oV 1 0 1 1), (8, .e (.c (.d (D.sl [iD x, iD y] 2)))), (9, iV 2), (10, iV 2)] [(1, some (3, .ds [iD x]))] 2 ⟨by omega, by omega⟩ ?_
 refine AWr.s ?_
 refine zr [.b false] [1, 5, 8, 9, 10, 11] [1] (¬ ((2 : Int) < 2)) [(1, sV .i64 l n), (5, oV 1 0 1 1), (8, .e (.c (.d (D.sl [iD x, iD y] 2)))), (9, iV 2), (10, iV 2), (11, bV false)] [(1, some (3, .ds [iD x]))] 2 zo ?_
 refine AW.seq ?_
 refine zf ?_
 refine AW.exit ?_
 refine zr [.no, .no] [4] [1] True [(4, oV 1 0 1 1)] [(1, some (3, .ds [iD x]))] 2 trivial ?_
 refine AW.ret ?_
 exact EndP.of (.inr rfl) [(0, 1)] (P := ((0 : Nat) = 0) ∧ ((1 : Nat) = 1) ∧ (([iD x] : List D) = [iD x])) zk ⟨rfl, rfl, rfl⟩
theorem D_rCom22 (x y : Int) (l : List Int) (n : Nat) (hn : List.length l = n) (hm : n ≤ 1000000) (h1 : idxK l x n < 0) (h2 : 0 ≤ idxK l y n) : Fun 65 [.c (.d (D.sl [iD x, iD y] 2)), .c (.d (D.sl (dI .i64 l) n))] (toG []) 0 (oV 0 0 1 1) (toG [(0, some (3, .ds [iD y]))]) 1 := by
 refine Fun.mk (n := 24) Tryz.func65 rfl rfl (Nat.le_of_ble_eq_true rfl) ?_
 intro cx hcx
 refine zr [.no] [0, 1] [] True [(0, .e (.c (.d (D.sl [iD x, iD y] 2)))), (1, sV .i64 l n)] [] 0 trivial ?_
 refine zr [.no] [0, 1, 5] [] True [(0, .e (.c (.d (D.sl [iD x, iD y] 2)))), (1, sV .i64 l n), (5, nV)] [] 0 trivial ?_
 refine AW.seq ?_
 refine zr [.no, .no, .no] [1, 5, 8, 9, 10] [] True [(1, sV .i64 l n), (5, nV), (8, .e (.c (.d (D.sl [iD x, iD y] 2)))), (9, iV 2), (10, iV 0)] [] 0 trivial ?_
 refine AW.block ?_
 refine AW.rounds 3 ?_
 refine AWr.s ?_
 refine zr [.b true] [1, 5, 8, 9, 10, 11] [] (((0 : Int) < 2)) [(1, sV .i64 l n), (5, nV), (8, .e (.c (.d (D.sl [iD x, iD y] 2)))), (9, iV 2), (10, iV 0), (11, bV true)] [] 0 zo ?_
 refine AW.seq ?_
 refine zts ?_
 refine AW.seq ?_
 refine AW.block ?_
 refine zr [.n 0, .no, .no] [1, 5, 7, 8, 9, 10] [] (((0 : Int) = 0) ∧ ((0 : Nat) < 2)) [(1, sV .i64 l n), (5, nV), (7, iV x), (8, .e (.c (.d (D.sl [iD x, iD y] 2)))), (9, iV 2), (10, iV 0)] [] 0 ⟨rfl, zo⟩ ?_
 refine zr [.no, .no, .call [] (iV (idxK l x n)) [] 0 [] none, .b false] [1, 5, 7, 8, 9, 10, 17] [] ((_) ∧ (¬ ((0 : Int) ≤ (idxK l x n)))) [(1, sV .i64 l n), (5, nV), (7, iV x), (8, .e (.c (.d (D.sl [iD x, iD y] 2)))), (9, iV 2), (10, iV 0), (17, bV false)] [] 0 ⟨(C_rIndex l n x zo zo), zo⟩ ?_
 refine zfs ?_
 refine zg [.w, .no] [1, 5, 8, 9, 10] [] ((-9223372036854775808) ≤ (1 : Int) ∧ (1 : Int) ≤ 9223372036854775807) [(1, sV .i64 l n), (5, nV), (8, .e (.c (.d (D.sl [iD x, iD y] 2)))), (9, iV 2), (10, iV 1)] [] 0 ⟨by omega, by omega⟩ ?_
 refine AWr.s ?_
 refine zr [.b true] [1, 5, 8, 9, 10, 11] [] (((1 : Int) < 2)) [(1, sV .i64 l n), (5, nV), (8, .e (.c (.d (D.sl [iD x, iD y] 2)))), (9, iV 2), (10, iV 1), (11, bV true)] [] 0 zo ?_
 refine AW.seq ?_
 refine zts ?_
 refine AW.seq ?_
 refine AW.block ?_
 refine zr [.n 1, .no, .no] [1, 5, 7, 8, 9, 10] [] (((1 : Int) = 1) ∧ ((1 : Nat) < 2)) [(1, sV .i64 l n), (5, nV), (7, iV y), (8, .e (.c (.d (D.sl [iD x, iD y] 2)))), (9, iV 2), (10, iV 1)] [] 0 ⟨rfl, zo⟩ ?_
 refine zr [.no, .no, .call [] (uV (ixN l y n)) [] 0 [] none, .b true] [1, 5, 7, 8, 9, 10, 17] [] ((_) ∧ (((0 : Int) ≤ (((ixN l y n) : Nat) : Int)))) [(1, sV .i64 l n), (5, nV), (7, iV y), (8, .e (.c (.d (D.sl [iD x, iD y] 2)))), (9, iV 2), (10, iV 1), (17, bV true)] [] 0 ⟨(C_rIndexAt l n y zo zo zl07d1), zo⟩ ?_
 refine zt ?_
 refine zg [.no, .no, .no, .ap none 1 [iD y], .no] [1, 5, 8, 9, 10] [1] (([iD y].length = 1 * 1) ∧ ((1 : Nat) * 8 ≤ 140737488355328) ∧ ((1 : Nat) = 1) ∧ (([iD y] : List D) = [iD y])) [(1, sV .i64 l n), (5, oV 1 0 1 1), (8, .e (.c (.d (D.sl [iD x, iD y] 2)))), (9, iV 2), (10, iV 1)] [(1, some (3, .ds [iD y]))] 2 ⟨zl07d2, zo, rfl, rfl⟩ ?_
 refine zg [.w, .no] [1, 5, 8, 9, 10] [1] ((-9223372036854775808) ≤ (2 : Int) ∧ (2 : Int) ≤ 9223372036854775807) [(1, sV .i64 l n), (5, oV 1 0 1 1), (8, .e (.c (.d (D.sl [iD x, iD y] 2)))), (9, iV 2), (10, iV 2)] [(1, some (3, .ds [iD y]))] 2 ⟨by omega, by omega⟩ ?_
 refine AWr.s ?_
 refine zr [.b false] [1, 5, 8, 9, 10, 11] [1] (¬ ((2 : Int) < 2)) [(1, sV .i64 l n), (5, oV 1 0 1 1), (8, .e (.c (.d (D.sl [iD x, iD y] 2)))), (9, iV 2), (10, iV 2), (11, bV false)] [(1, some (3, .ds [iD y]))] 2 zo ?_
 refine AW.seq ?_
 refine zf ?_
 refine AW.exit ?_
 refine zr [.no, .no] [4] [1] True [(4, oV 1 0 1 1)] [(1, some (3, .ds [iD y]))] 2 trivial ?_
 refine AW.ret ?_
 exact EndP.of (.inr rfl) [(0, 1)] (P := ((0 : Nat) = 0) ∧ ((1 : Nat) = 1) ∧ (([iD y] : List D) = [iD y])) zk ⟨rfl, rfl, rfl⟩
theorem D_rCom23 (x y : Int) (l : List Int) (n : Nat) (hn : List.length l = n) (hm : n ≤ 1000000) (h1 : 0 ≤ idxK l x n) (h2 : 0 ≤ idxK l y n) : Fun 65 [.c (.d (D.sl [iD x, iD y] 2)), .c (.d (D.sl (dI .i64 l) n))] (toG []) 0 (oV 0 0 2 1) (toG [(0, some (3, .ds [iD x, iD y]))]) 1 := by
 refine Fun.mk (n := 24) Tryz.func65 rfl rfl (Nat.le_of_ble_eq_true rfl) ?_
 intro cx hcx
 refine zr [.no] [0, 1] [] True [(0, .e (.c (.d (D.sl [iD x, iD y] 2)))), (1, sV .i64 l n)] [] 0 trivial ?_
 refine zr [.no] [0, 1, 5] [] True [(0, .e (.c (.d (D.sl [iD x, iD y] 2)))), (1, sV .i64 l n), (5, nV)] [] 0 trivial ?_
 refine AW.seq ?_
 refine zr [.no, .no, .no] [1, 5, 8, 9, 10] [] True [(1, sV .i64 l n), (5, nV), (8, .e (.c (.d (D.sl [iD x, iD y] 2)))), (9, iV 2), (10, iV 0)] [] 0 trivial ?_
 refine AW.block ?_
 refine AW.rounds 3 ?_
 refine AWr.s ?_
 refine zr [.b true] [1, 5, 8, 9, 10, 11] [] (((0 : Int) < 2)) [(1, sV .i64 l n), (5, nV), (8, .e (.c (.d (D.sl [iD x, iD y] 2)))), (9, iV 2), (10, iV 0), (11, bV true)] [] 0 zo ?_
 refine AW.seq ?_
 refine zts ?_
 refine AW.seq ?_
 refine AW.block ?_
 refine zr [.n 0, .no, .no] [1, 5, 7, 8, 9, 10] [] (((0 : Int) = 0) ∧ ((0 : Nat) < 2)) [(1, sV .i64 l n), (5, nV), (7, iV x), (8, .e (.c (.d (D.sl [iD x, iD y] 2)))), (9, iV 2), (10, iV 0)] [] 0 ⟨rfl, zo⟩ ?_
 refine zr [.no, .no, .call [] (uV (ixN l x n)) [] 0 [] none, .b true] [1, 5, 7, 8, 9, 10, 17] [] ((_) ∧ (((0 : Int) ≤ (((ixN l x n) : Nat) : Int)))) [(1, sV .i64 l n), (5, nV), (7, iV x), (8, .e (.c (.d (D.sl [iD x, iD y] 2)))), (9, iV 2), (10, iV 0), (17, bV true)] [] 0 ⟨(C_rIndexAt l n x zo zo zl07d1), zo⟩ ?_
 refine zt ?_
 refine zg [.no, .no, .no, .ap none 1 [iD x], .no] [1, 5, 8, 9, 10] [1] (([iD x].length = 1 * 1) ∧ ((1 : Nat) * 8 ≤ 140737488355328) ∧ ((1 : Nat) = 1) ∧ (([iD x] : List D) = [iD x])) [(1, sV .i64 l n), (5, oV 1 0 1 1), (8, .e (.c (.d (D.sl [iD x, iD y] 2)))), (9, iV 2), (10, iV 0)] [(1, some (3, .ds [iD x]))] 2 ⟨zl07d2, zo, rfl, rfl⟩ ?_
 refine zg [.w, .no] [1, 5, 8, 9, 10] [1] ((-9223372036854775808) ≤ (1 : Int) ∧ (1 : Int) ≤ 9223372036854775807) [(1, sV .i64 l n), (5, oV 1 0 1 1), (8, .e (.c (.d (D.sl [iD x, iD y] 2)))), (9, iV 2), (10, iV 1)] [(1, some (3, .ds [iD x]))] 2 ⟨by omega, by omega⟩ ?_
 refine AWr.s ?_
 refine zr [.b true] [1, 5, 8, 9, 10, 11] [1] (((1 : Int) < 2)) [(1, sV .i64 l n), (5, oV 1 0 1 1), (8, .e (.c (.d (D.sl [iD x, iD y] 2)))), (9, iV 2), (10, iV 1), (11, bV true)] [(1, some (3, .ds [iD x]))] 2 zo ?_
 refine AW.seq ?_
 refine zts ?_
 refine AW.seq ?_
 refine AW.block ?_
 refine zr [.n 1, .no, .no] [1, 5, 7, 8, 9, 10] [1] (((1 : Int) = 1) ∧ ((1 : Nat) < 2)) [(1, sV .i64 l n), (5, oV 1 0 1 1), (7, iV y), (8, .e (.c (.d (D.sl [iD x, iD y] 2)))), (9, iV 2), (10, iV 1)] [(1, some (3, .ds [iD x]))] 2 ⟨rfl, zo⟩ ?_
 refine zr [.no, .no, .call [] (uV (ixN l y n)) [] 0 [] none, .b true] [1, 5, 7, 8, 9, 10, 17] [1] ((_) ∧ (((0 : Int) ≤ (((ixN l y n) : Nat) : Int)))) [(1, sV .i64 l n), (5, oV 1 0 1 1), (7, iV y), (8, .e (.c (.d (D.sl [iD x, iD y] 2)))), (9, iV 2), (10, iV 1), (17, bV true)] [(1, some (3, .ds [iD x]))] 2 ⟨(C_rIndexAt l n y zo zo zl07d1), zo⟩ ?_
 refine zt ?_
 refine zg [.no, .no, .no, .ap none 2 [iD x, iD y], .no] [1, 5, 8, 9, 10] [3] (([iD y].length = 1 * 1) ∧ (([iD x] : List D).length = 1 * 1) ∧ ((1 + 1) * 8 ≤ 140737488355328) ∧ ((1 : Nat) + 1 = 2) ∧ (([iD x] : List D) ++ [iD y] = [iD x, iD y])) [(1, sV .i64 l n), (5, oV 3 0 2 1), (8, .e (.c (.d (D.sl [iD x, iD y] 2)))), (9, iV 2), (10, iV 1)] [(3, some (3, .ds [iD x, iD y]))] 4 ⟨zl07d2, zl07d2, zo, zo, rfl⟩ ?_
 refine zg [.w, .no] [1, 5, 8, 9, 10] [3] ((-9223372036854775808) ≤ (2 : Int) ∧ (2 : Int) ≤ 9223372036854775807) [(1, sV .i64 l n), (5, oV 3 0 2 1), (8, .e (.c (.d (D.sl [iD x, iD y] 2)))), (9, iV 2), (10, iV 2)] [(3, some (3, .ds [iD x, iD y]))] 4 ⟨by omega, by omega⟩ ?_
 refine AWr.s ?_
 refine zr [.b false] [1, 5, 8, 9, 10, 11] [3] (¬ ((2 : Int) < 2)) [(1, sV .i64 l n), (5, oV 3 0 2 1), (8, .e (.c (.d (D.sl [iD x, iD y] 2)))), (9, iV 2), (10, iV 2), (11, bV false)] [(3, some (3, .ds [iD x, iD y]))] 4 zo ?_
 refine AW.seq ?_
 refine zf ?_
 refine AW.exit ?_
 refine zr [.no, .no] [4] [3] True [(4, oV 3 0 2 1)] [(3, some (3, .ds [iD x, iD y]))] 4 trivial ?_
 refine AW.ret ?_
 exact EndP.of (.inr rfl) [(0, 3)] (P := ((0 : Nat) = 0) ∧ ((2 : Nat) = 2) ∧ (([iD x, iD y] : List D) = [iD x, iD y])) zk ⟨rfl, rfl, rfl⟩
theorem D_else3 (p : Int) (h : p = 3) : Fun 98 [iE p] (toG []) 0 (oV 0 0 1 1) (toG [(0, some (22, .cs [.own 1 0 2 1 true])), (1, some (3, .ds [iD 1, iD 2]))]) 2 := by
 refine Fun.mk (n := 37) Tryz.func98 rfl rfl (Nat.le_of_ble_eq_true rfl) ?_
 intro cx hcx
 refine zr [.no] [0] [] True [(0, iV p)] [] 0 trivial ?_
 refine AW.seq ?_
 refine zr [.no] [3] [] True [(3, iV p)] [] 0 trivial ?_
 refine AW.block ?_
 refine zr [.b true, .no] [3, 4] [] ((p = 3)) [(3, iV p), (4, bV true)] [] 0 zo ?_
 refine zt ?_
 refine zr [.no, .no, .no] [2] [0, 1] True [(2, oV 1 0 1 1)] [(0, some (3, .ds [iD 1, iD 2])), (1, some (22, .cs [.own 0 0 2 1 true]))] 2 trivial ?_
 refine AW.ret ?_
 exact EndP.of (.inr rfl) [(0, 1), (1, 0)] (P := ((0 : Nat) = 0) ∧ ((1 : Nat) = 1) ∧ ((0 : Nat) = 0) ∧ ((2 : Nat) = 2) ∧ (([iD 1, iD 2] : List D) = [iD 1, iD 2])) zk ⟨rfl, rfl, rfl, rfl, rfl⟩
theorem D_else1 (p : Int) (h : 1 ≤ p ∧ p ≤ 2) : Fun 98 [iE p] (toG []) 0 (oV 0 0 1 1) (toG [(0, some (22, .cs [.own 1 0 1 1 true])), (1, some (3, .ds [iD 3]))]) 2 := by
 refine Fun.mk (n := 37) Tryz.func98 rfl rfl (Nat.le_of_ble_eq_true rfl) ?_
 intro cx hcx
 refine zr [.no] [0] [] True [(0, iV p)] [] 0 trivial ?_
 refine AW.seq ?_
 refine zr [.no] [3] [] True [(3, iV p)] [] 0 trivial ?_
 refine AW.block ?_
 refine zr [.b false, .no] [3, 4] [] (¬ (p = 3)) [(3, iV p), (4, bV false)] [] 0 zo ?_
 refine zf ?_
 refine AW.seq ?_
 by_cases hx1 : (p = 1)
 ·refine zr [.b true, .no] [3, 8] [] ((p = 1)) [(3, iV p), (8, bV true)] [] 0 zo ?_
  refine zts ?_
  refine zt ?_
  refine zr [.no, .no, .no] [2] [0, 1] True [(2, oV 1 0 1 1)] [(0, some (3, .ds [iD 3])), (1, some (22, .cs [.own 0 0 1 1 true]))] 2 trivial ?_
  refine AW.ret ?_
  exact EndP.of (.inr rfl) [(0, 1), (1, 0)] (P := ((0 : Nat) = 0) ∧ ((1 : Nat) = 1) ∧ ((0 : Nat) = 0) ∧ ((1 : Nat) = 1) ∧ (([iD 3] : List D) = [iD 3])) zk ⟨rfl, rfl, rfl, rfl, rfl⟩
 ·refine zr [.b false, .no] [3, 8] [] (¬ (p = 1)) [(3, iV p), (8, bV false)] [] 0 zo ?_
  refine zf ?_
  refine zg [.b true, .no] [3, 8] [] ((p = 2)) [(3, iV p), (8, bV true)] [] 0 zo ?_
  refine zt ?_
  refine zr [.no, .no, .no] [2] [0, 1] True [(2, oV 1 0 1 1)] [(0, some (3, .ds [iD 3])), (1, some (22, .cs [.own 0 0 1 1 true]))] 2 trivial ?_
  refine AW.ret ?_
  exact EndP.of (.inr rfl) [(0, 1), (1, 0)] (P := ((0 : Nat) = 0) ∧ ((1 : Nat) = 1) ∧ ((0 : Nat) = 0) ∧ ((1 : Nat) = 1) ∧ (([iD 3] : List D) = [iD 3])) zk ⟨rfl, rfl, rfl, rfl, rfl⟩
theorem zl07d0 {p : Prop} (h : p := by first | rfl | (unfold w1; (repeat' split) <;> first | rfl | omega) | (unfold w2; (repeat' split) <;> first | rfl | omega)) : p := h
theorem D_else5 (p : Int) (h : 5 ≤ p ∧ p ≤ 8) : Fun 98 [iE p] (toG []) 0 (oV 0 0 3 1) (toG [(0, some (22, .cs [.own 1 0 1 1 true, .own 2 0 1 1 true, .own 3 0 1 1 true])), (1, some (3, .ds [iD (w1 p)])), (2, some (3, .ds [iD (w2 p)])), (3, some (3, .ds [iD 3]))]) 4 := by
 refine Fun.mk (n := 37) Tryz.func98 rfl rfl (Nat.le_of_ble_eq_true rfl) ?_
 intro cx hcx
 refine zr [.no] [0] [] True [(0, iV p)] [] 0 trivial ?_
 refine AW.seq ?_
 refine zr [.no] [3] [] True [(3, iV p)] [] 0 trivial ?_
 refine AW.block ?_
 refine zr [.b false, .no] [3, 4] [] (¬ (p = 3)) [(3, iV p), (4, bV false)] [] 0 zo ?_
 refine zf ?_
 refine AW.seq ?_
 refine zr [.b false, .no] [3, 8] [] (¬ (p = 1)) [(3, iV p), (8, bV false)] [] 0 zo ?_
 refine zf ?_
 refine zg [.b false, .no] [3, 8] [] (¬ (p = 2)) [(3, iV p), (8, bV false)] [] 0 zo ?_
 refine zf ?_
 by_cases hx1 : (p = 5)
 ·refine zr [.b true, .no] [3, 13] [] ((p = 5)) [(3, iV p), (13, bV true)] [] 0 zo ?_
  refine zt ?_
  refine zr [.no, .no, .no, .no, .no] [2] [0, 1, 2, 3] True [(2, oV 3 0 3 1)] [(0, some (3, .ds [iD 7])), (1, some (3, .ds [iD 1])), (2, some (3, .ds [iD 3])), (3, some (22, .cs [.own 0 0 1 1 true, .own 1 0 1 1 true, .own 2 0 1 1 true]))] 4 trivial ?_
  refine AW.ret ?_
  exact EndP.of (.inr rfl) [(0, 3), (1, 0), (2, 1), (3, 2)] (P := ((0 : Nat) = 0) ∧ ((3 : Nat) = 3) ∧ ((0 : Nat) = 0) ∧ ((1 : Nat) = 1) ∧ ((0 : Nat) = 0) ∧ ((1 : Nat) = 1) ∧ ((0 : Nat) = 0) ∧ ((1 : Nat) = 1) ∧ (([iD (w1 p)] : List D) = [iD 7]) ∧ (([iD (w2 p)] : List D) = [iD 1]) ∧ (([iD 3] : List D) = [iD 3])) zk ⟨rfl, rfl, rfl, rfl, rfl, rfl, rfl, rfl, zl07d0, zl07d0, rfl⟩
 ·refine zr [.b false, .no] [3, 13] [] (¬ (p = 5)) [(3, iV p), (13, bV false)] [] 0 zo ?_
  refine zf ?_
  by_cases hx2 : (p = 6)
  ·refine zr [.b true, .no] [3, 19] [] ((p = 6)) [(3, iV p), (19, bV true)] [] 0 zo ?_
   refine zt ?_
   refine zr [.no, .no, .no, .no, .no] [2] [0, 1, 2, 3] True [(2, oV 3 0 3 1)] [(0, some (3, .ds [iD 8])), (1, some (3, .ds [iD 2])), (2, some (3, .ds [iD 3])), (3, some (22, .cs [.own 0 0 1 1 true, .own 1 0 1 1 true, .own 2 0 1 1 true]))] 4 trivial ?_
   refine AW.ret ?_
   exact EndP.of (.inr rfl) [(0, 3), (1, 0), (2, 1), (3, 2)] (P := ((0 : Nat) = 0) ∧ ((3 : Nat) = 3) ∧ ((0 : Nat) = 0) ∧ ((1 : Nat) = 1) ∧ ((0 : Nat) = 0) ∧ ((1 : Nat) = 1) ∧ ((0 : Nat) = 0) ∧ ((1 : Nat) = 1) ∧ (([iD (w1 p)] : List D) = [iD 8]) ∧ (([iD (w2 p)] : List D) = [iD 2]) ∧ (([iD 3] : List D) = [iD 3])) zk ⟨rfl, rfl, rfl, rfl, rfl, rfl, rfl, rfl, zl07d0, zl07d0, rfl⟩
  ·refine zr [.b false, .no] [3, 19] [] (¬ (p = 6)) [(3, iV p), (19, bV false)] [] 0 zo ?_
   refine zf ?_
   by_cases hx3 : (p = 7)
   ·refine zr [.b true, .no] [3, 25] [] ((p = 7)) [(3, iV p), (25, bV true)] [] 0 zo ?_
    refine zt ?_
    refine zr [.no, .no, .no, .no, .no] [2] [0, 1, 2, 3] True [(2, oV 3 0 3 1)] [(0, some (3, .ds [iD 5])), (1, some (3, .ds [iD 1])), (2, some (3, .ds [iD 3])), (3, some (22, .cs [.own 0 0 1 1 true, .own 1 0 1 1 true, .own 2 0 1 1 true]))] 4 trivial ?_
    refine AW.ret ?_
    exact EndP.of (.inr rfl) [(0, 3), (1, 0), (2, 1), (3, 2)] (P := ((0 : Nat) = 0) ∧ ((3 : Nat) = 3) ∧ ((0 : Nat) = 0) ∧ ((1 : Nat) = 1) ∧ ((0 : Nat) = 0) ∧ ((1 : Nat) = 1) ∧ ((0 : Nat) = 0) ∧ ((1 : Nat) = 1) ∧ (([iD (w1 p)] : List D) = [iD 5]) ∧ (([iD (w2 p)] : List D) = [iD 1]) ∧ (([iD 3] : List D) = [iD 3])) zk ⟨rfl, rfl, rfl, rfl, rfl, rfl, rfl, rfl, zl07d0, zl07d0, rfl⟩
   ·refine zr [.b false, .no] [3, 25] [] (¬ (p = 7)) [(3, iV p), (25, bV false)] [] 0 zo ?_
    refine zf ?_
    refine zr [.b true, .no] [31] [] ((p = 8)) [(31, bV true)] [] 0 zo ?_
    refine zt ?_
    refine zr [.no, .no, .no, .no, .no] [2] [0, 1, 2, 3] True [(2, oV 3 0 3 1)] [(0, some (3, .ds [iD 6])), (1, some (3, .ds [iD 2])), (2, some (3, .ds [iD 3])), (3, some (22, .cs [.own 0 0 1 1 true, .own 1 0 1 1 true, .own 2 0 1 1 true]))] 4 trivial ?_
    refine AW.ret ?_
    exact EndP.of (.inr rfl) [(0, 3), (1, 0), (2, 1), (3, 2)] (P := ((0 : Nat) = 0) ∧ ((3 : Nat) = 3) ∧ ((0 : Nat) = 0) ∧ ((1 : Nat) = 1) ∧ ((0 : Nat) = 0) ∧ ((1 : Nat) = 1) ∧ ((0 : Nat) = 0) ∧ ((1 : Nat) = 1) ∧ (([iD (w1 p)] : List D) = [iD 6]) ∧ (([iD (w2 p)] : List D) = [iD 2]) ∧ (([iD 3] : List D) = [iD 3])) zk ⟨rfl, rfl, rfl, rfl, rfl, rfl, rfl, rfl, zl07d0, zl07d0, rfl⟩
theorem D_else4 (p : Int) (h : p = 4) : Fun 98 [iE p] (toG []) 0 (nV) (toG []) 0 := by
 refine Fun.mk (n := 37) Tryz.func98 rfl rfl (Nat.le_of_ble_eq_true rfl) ?_
 intro cx hcx
 refine zr [.no] [0] [] True [(0, iV p)] [] 0 trivial ?_
 refine AW.seq ?_
 refine zr [.no] [3] [] True [(3, iV p)] [] 0 trivial ?_
 refine AW.block ?_
 refine zr [.b false, .no] [3, 4] [] (¬ (p = 3)) [(3, iV p), (4, bV false)] [] 0 zo ?_
 refine zf ?_
 refine AW.seq ?_
 refine zr [.b false, .no] [3, 8] [] (¬ (p = 1)) [(3, iV p), (8, bV false)] [] 0 zo ?_
 refine zf ?_
 refine zg [.b false, .no] [3, 8] [] (¬ (p = 2)) [(3, iV p), (8, bV false)] [] 0 zo ?_
 refine zf ?_
 refine zr [.b false, .no] [3, 13] [] (¬ (p = 5)) [(3, iV p), (13, bV false)] [] 0 zo ?_
 refine zf ?_
 refine zr [.b false, .no] [3, 19] [] (¬ (p = 6)) [(3, iV p), (19, bV false)] [] 0 zo ?_
 refine zf ?_
 refine zr [.b false, .no] [3, 25] [] (¬ (p = 7)) [(3, iV p), (25, bV false)] [] 0 zo ?_
 refine zf ?_
 refine zr [.b false, .no] [31] [] (¬ (p = 8)) [(31, bV false)] [] 0 zo ?_
 refine zfs ?_
 refine zr [.no] [2] [] True [(2, nV)] [] 0 trivial ?_
 refine AW.ret ?_
 exact EndP.of (.inr rfl) [] (P := ((.slice none 0 0 : Value) = .slice none 0 0)) zk rfl
theorem D_ways3 (p : Int) (h : p = 3) : Fun 64 [iE p] (toG []) 0 (oV 0 0 1 1) (toG [(0, some (22, .cs [.own 1 0 2 1 true])), (1, some (3, .ds [iD 1, iD 2]))]) 2 := by
 refine Fun.mk (n := 37) Tryz.func64 rfl rfl (Nat.le_of_ble_eq_true rfl) ?_
 intro cx hcx
 refine zr [.no] [0] [] True [(0, iV p)] [] 0 trivial ?_
 refine AW.seq ?_
 refine zr [.no] [3] [] True [(3, iV p)] [] 0 trivial ?_
 refine AW.block ?_
 refine zr [.b true, .no] [3, 4] [] ((p = 3)) [(3, iV p), (4, bV true)] [] 0 zo ?_
 refine zt ?_
 refine zr [.no, .no, .no] [2] [0, 1] True [(2, oV 1 0 1 1)] [(0, some (3, .ds [iD 1, iD 2])), (1, some (22, .cs [.own 0 0 2 1 true]))] 2 trivial ?_
 refine AW.ret ?_
 exact EndP.of (.inr rfl) [(0, 1), (1, 0)] (P := ((0 : Nat) = 0) ∧ ((1 : Nat) = 1) ∧ ((0 : Nat) = 0) ∧ ((2 : Nat) = 2) ∧ (([iD 1, iD 2] : List D) = [iD 1, iD 2])) zk ⟨rfl, rfl, rfl, rfl, rfl⟩
theorem D_ways1 (p : Int) (h : 1 ≤ p ∧ p ≤ 2) : Fun 64 [iE p] (toG []) 0 (oV 0 0 1 1) (toG [(0, some (22, .cs [.own 1 0 1 1 true])), (1, some (3, .ds [iD 3]))]) 2 := by
 refine Fun.mk (n := 37) Tryz.func64 rfl rfl (Nat.le_of_ble_eq_true rfl) ?_
 intro cx hcx
 refine zr [.no] [0] [] True [(0, iV p)] [] 0 trivial ?_
 refine AW.seq ?_
 refine zr [.no] [3] [] True [(3, iV p)] [] 0 trivial ?_
 refine AW.block ?_
 refine zr [.b false, .no] [3, 4] [] (¬ (p = 3)) [(3, iV p), (4, bV false)] [] 0 zo ?_
 refine zf ?_
 refine AW.seq ?_
 by_cases hx1 : (p = 1)
 ·refine zr [.b true, .no] [3, 8] [] ((p = 1)) [(3, iV p), (8, bV true)] [] 0 zo ?_
  refine zts ?_
  refine zt ?_
  refine zr [.no, .no, .no] [2] [0, 1] True [(2, oV 1 0 1 1)] [(0, some (3, .ds [iD 3])), (1, some (22, .cs [.own 0 0 1 1 true]))] 2 trivial ?_
  refine AW.ret ?_
  exact EndP.of (.inr rfl) [(0, 1), (1, 0)] (P := ((0 : Nat) = 0) ∧ ((1 : Nat) = 1) ∧ ((0 : Nat) = 0) ∧ ((1 : Nat) = 1) ∧ (([iD 3] : List D) = [iD 3])) zk ⟨rfl, rfl, rfl, rfl, rfl⟩
 ·refine zr [.b false, .no] [3, 8] [] (¬ (p = 1)) [(3, iV p), (8, bV false)] [] 0 zo ?_
  refine zf ?_
  refine zg [.b true, .no] [3, 8] [] ((p = 2)) [(3, iV p), (8, bV true)] [] 0 zo ?_
  refine zt ?_
  refine zr [.no, .no, .no] [2] [0, 1] True [(2, oV 1 0 1 1)] [(0, some (3, .ds [iD 3])), (1, some (22, .cs [.own 0 0 1 1 true]))] 2 trivial ?_
  refine AW.ret ?_
  exact EndP.of (.inr rfl) [(0, 1), (1, 0)] (P := ((0 : Nat) = 0) ∧ ((1 : Nat) = 1) ∧ ((0 : Nat) = 0) ∧ ((1 : Nat) = 1) ∧ (([iD 3] : List D) = [iD 3])) zk ⟨rfl, rfl, rfl, rfl, rfl⟩
theorem D_ways5 (p : Int) (h : 5 ≤ p ∧ p ≤ 8) : Fun 64 [iE p] (toG []) 0 (oV 0 0 3 1) (toG [(0, some (22, .cs [.own 1 0 1 1 true, .own 2 0 1 1 true, .own 3 0 1 1 true])), (1, some (3, .ds [iD (w1 p)])), (2, some (3, .ds [iD (w2 p)])), (3, some (3, .ds [iD 3]))]) 4 := by
 refine Fun.mk (n := 37) Tryz.func64 rfl rfl (Nat.le_of_ble_eq_true rfl) ?_
 intro cx hcx
 refine zr [.no] [0] [] True [(0, iV p)] [] 0 trivial ?_
 refine AW.seq ?_
 refine zr [.no] [3] [] True [(3, iV p)] [] 0 trivial ?_
 refine AW.block ?_
 refine zr [.b false, .no] [3, 4] [] (¬ (p = 3)) [(3, iV p), (4, bV false)] [] 0 zo ?_
 refine zf ?_
 refine AW.seq ?_
 refine zr [.b false, .no] [3, 8] [] (¬ (p = 1)) [(3, iV p), (8, bV false)] [] 0 zo ?_
 refine zf ?_
 refine zg [.b false, .no] [3, 8] [] (¬ (p = 2)) [(3, iV p), (8, bV false)] [] 0 zo ?_
 refine zf ?_
 by_cases hx1 : (p = 5)
 ·refine zr [.b true, .no] [3, 13] [] ((p = 5)) [(3, iV p), (13, bV true)] [] 0 zo ?_
  refine zt ?_
  refine zr [.no, .no, .no, .no, .no] [2] [0, 1, 2, 3] True [(2, oV 3 0 3 1)] [(0, some (3, .ds [iD 7])), (1, some (3, .ds [iD 1])), (2, some (3, .ds [iD 3])), (3, some (22, .cs [.own 0 0 1 1 true, .own 1 0 1 1 true, .own 2 0 1 1 true]))] 4 trivial ?_
  refine AW.ret ?_
  exact EndP.of (.inr rfl) [(0, 3), (1, 0), (2, 1), (3, 2)] (P := ((0 : Nat) = 0) ∧ ((3 : Nat) = 3) ∧ ((0 : Nat) = 0) ∧ ((1 : Nat) = 1) ∧ ((0 : Nat) = 0) ∧ ((1 : Nat) = 1) ∧ ((0 : Nat) = 0) ∧ ((1 : Nat) = 1) ∧ (([iD (w1 p)] : List D) = [iD 7]) ∧ (([iD (w2 p)] : List D) = [iD 1]) ∧ (([iD 3] : List D) = [iD 3])) zk ⟨rfl, rfl, rfl, rfl, rfl, rfl, rfl, rfl, zl07d0, zl07d0, rfl⟩
 ·refine zr [.b false, .no] [3, 13] [] (¬ (p = 5)) [(3, iV p), (13, bV false)] [] 0 zo ?_
  refine zf ?_
  by_cases hx2 : (p = 6)
  ·refine zr [.b true, .no] [3, 19] [] ((p = 6)) [(3, iV p), (19, bV true)] [] 0 zo ?_
   refine zt ?_
   refine zr [.no, .no, .no, .no, .no] [2] [0, 1, 2, 3] True [(2, oV 3 0 3 1)] [(0, some (3, .ds [iD 8])), (1, some (3, .ds [iD 2])), (2, some (3, .ds [iD 3])), (3, some (22, .cs [.own 0 0 1 1 true, .own 1 0 1 1 true, .own 2 0 1 1 true]))] 4 trivial ?_
   refine AW.ret ?_
   exact EndP.of (.inr rfl) [(0, 3), (1, 0), (2, 1), (3, 2)] (P := ((0 : Nat) = 0) ∧ ((3 : Nat) = 3) ∧ ((0 : Nat) = 0) ∧ ((1 : Nat) = 1) ∧ ((0 : Nat) = 0) ∧ ((1 : Nat) = 1) ∧ ((0 : Nat) = 0) ∧ ((1 : Nat) = 1) ∧ (([iD (w1 p)] : List D) = [iD 8]) ∧ (([iD (w2 p)] : List D) = [iD 2]) ∧ (([iD 3] : List D) = [iD 3])) zk ⟨rfl, rfl, rfl, rfl, rfl, rfl, rfl, rfl, zl07d0, zl07d0, rfl⟩
  ·refine zr [.b false, .no] [3, 19] [] (¬ (p = 6)) [(3, iV p), (19, bV false)] [] 0 zo ?_
   refine zf ?_
   by_cases hx3 : (p = 7)
   ·refine zr [.b true, .no] [3, 25] [] ((p = 7)) [(3, iV p), (25, bV true)] [] 0 zo ?_
    refine zt ?_
    refine zr [.no, .no, .no, .no, .no] [2] [0, 1, 2, 3] True [(2, oV 3 0 3 1)] [(0, some (3, .ds [iD 5])), (1, some (3, .ds [iD 1])), (2, some (3, .ds [iD 3])), (3, some (22, .cs [.own 0 0 1 1 true, .own 1 0 1 1 true, .own 2 0 1 1 true]))] 4 trivial ?_
    refine AW.ret ?_
    exact EndP.of (.inr rfl) [(0, 3), (1, 0), (2, 1), (3, 2)] (P := ((0 : Nat) = 0) ∧ ((3 : Nat) = 3) ∧ ((0 : Nat) = 0) ∧ ((1 : Nat) = 1) ∧ ((0 : Nat) = 0) ∧ ((1 : Nat) = 1) ∧ ((0 : Nat) = 0) ∧ ((1 : Nat) = 1) ∧ (([iD (w1 p)] : List D) = [iD 5]) ∧ (([iD (w2 p)] : List D) = [iD 1]) ∧ (([iD 3] : List D) = [iD 3])) zk ⟨rfl, rfl, rfl, rfl, rfl, rfl, rfl, rfl, zl07d0, zl07d0, rfl⟩
   ·refine zr [.b false, .no] [3, 25] [] (¬ (p = 7)) [(3, iV p), (25, bV false)] [] 0 zo ?_
    refine zf ?_
    refine zr [.b true, .no] [31] [] ((p = 8)) [(31, bV true)] [] 0 zo ?_
    refine zt ?_
    refine zr [.no, .no, .no, .no, .no] [2] [0, 1, 2, 3] True [(2, oV 3 0 3 1)] [(0, some (3, .ds [iD 6])), (1, some (3, .ds [iD 2])), (2, some (3, .ds [iD 3])), (3, some (22, .cs [.own 0 0 1 1 true, .own 1 0 1 1 true, .own 2 0 1 1 true]))] 4 trivial ?_
    refine AW.ret ?_
    exact EndP.of (.inr rfl) [(0, 3), (1, 0), (2, 1), (3, 2)] (P := ((0 : Nat) = 0) ∧ ((3 : Nat) = 3) ∧ ((0 : Nat) = 0) ∧ ((1 : Nat) = 1) ∧ ((0 : Nat) = 0) ∧ ((1 : Nat) = 1) ∧ ((0 : Nat) = 0) ∧ ((1 : Nat) = 1) ∧ (([iD (w1 p)] : List D) = [iD 6]) ∧ (([iD (w2 p)] : List D) = [iD 2]) ∧ (([iD 3] : List D) = [iD 3])) zk ⟨rfl, rfl, rfl, rfl, rfl, rfl, rfl, rfl, zl07d0, zl07d0, rfl⟩
theorem D_ways4 (p : Int) (h : p = 4) : Fun 64 [iE p] (toG []) 0 (nV) (toG []) 0 := by
 refine Fun.mk (n := 37) Tryz.func64 rfl rfl (Nat.le_of_ble_eq_true rfl) ?_
 intro cx hcx
 refine zr [.no] [0] [] True [(0, iV p)] [] 0 trivial ?_
 refine AW.seq ?_
 refine zr [.no] [3] [] True [(3, iV p)] [] 0 trivial ?_
 refine AW.block ?_
 refine zr [.b false, .no] [3, 4] [] (¬ (p = 3)) [(3, iV p), (4, bV false)] [] 0 zo ?_
 refine zf ?_
 refine AW.seq ?_
 refine zr [.b false, .no] [3, 8] [] (¬ (p = 1)) [(3, iV p), (8, bV false)] [] 0 zo ?_
 refine zf ?_
 refine zg [.b false, .no] [3, 8] [] (¬ (p = 2)) [(3, iV p), (8, bV false)] [] 0 zo ?_
 refine zf ?_
 refine zr [.b false, .no] [3, 13] [] (¬ (p = 5)) [(3, iV p), (13, bV false)] [] 0 zo ?_
 refine zf ?_
 refine zr [.b false, .no] [3, 19] [] (¬ (p = 6)) [(3, iV p), (19, bV false)] [] 0 zo ?_
 refine zf ?_
 refine zr [.b false, .no] [3, 25] [] (¬ (p = 7)) [(3, iV p), (25, bV false)] [] 0 zo ?_
 refine zf ?_
 refine zr [.b false, .no] [31] [] (¬ (p = 8)) [(31, bV false)] [] 0 zo ?_
 refine zfs ?_
 refine zr [.no] [2] [] True [(2, nV)] [] 0 trivial ?_
 refine AW.ret ?_
 exact EndP.of (.inr rfl) [] (P := ((.slice none 0 0 : Value) = .slice none 0 0)) zk rfl
theorem D_goalsA (l : List Int) (n : Nat) (v : Int) (hn : List.length l = n) (hm : n ≤ 1000000) (hv : 0 ≤ idxK l v n) : Fun 54 [iE v, .c (.d (D.sl (dI .i64 l) n))] (toG []) 0 (.tup [.c (.own 0 0 1 1 true), iE 32768]) (toG [(0, some (3, .ds [iD v]))]) 1 := by
 refine Fun.mk (n := 30) Tryz.func54 rfl rfl (Nat.le_of_ble_eq_true rfl) ?_
 intro cx hcx
 refine zr [.no, .no] [0, 1] [] True [(0, iV v), (1, sV .i64 l n)] [] 0 trivial ?_
 refine AW.seq ?_
 refine zr [.no, .no, .call [] (uV (ixN l v n)) [] 0 [] none, .b true] [0, 1, 11] [] ((_) ∧ (((0 : Int) ≤ (((ixN l v n) : Nat) : Int)))) [(0, iV v), (1, sV .i64 l n), (11, bV true)] [] 0 ⟨(C_IndexAt l n v zo zo zl07d1), zo⟩ ?_
 refine zt ?_
 refine zr [.no, .no, .no, .no] [4, 5] [0] True [(4, oV 0 0 1 1), (5, iV 32768)] [(0, some (3, .ds [iD v]))] 1 trivial ?_
 refine AW.ret ?_
 exact EndP.of (.inr rfl) [] (P := ((0 : Nat) = 0) ∧ ((1 : Nat) = 1) ∧ ((32768 : Int) = 32768) ∧ (([iD v] : List D) = [iD v])) zk ⟨rfl, rfl, rfl, rfl⟩
theorem zl07d4 {p : Prop} (h : p := by first | exact dI_ns _ _ | rfl) : p := h
theorem D_goals3a (l : List Int) (n : Nat) (v : Int) (hn : List.length l = n) (hm : n ≤ 1000000) (hv : idxK l v n < 0) (h : v = 3) (h1 : 0 ≤ idxK l 1 n) (h2 : 0 ≤ idxK l 2 n) : Fun 54 [iE v, .c (.d (D.sl (dI .i64 l) n))] (toG []) 0 (.tup [.c (.own 0 0 2 1 true), iE 23170]) (toG [(0, some (3, .ds [iD 1, iD 2]))]) 1 := by
 refine Fun.mk (n := 30) Tryz.func54 rfl rfl (Nat.le_of_ble_eq_true rfl) ?_
 intro cx hcx
 refine zr [.no, .no] [0, 1] [] True [(0, iV v), (1, sV .i64 l n)] [] 0 trivial ?_
 refine AW.seq ?_
 refine zr [.no, .no, .call [] (iV (idxK l v n)) [] 0 [] none, .b false] [0, 1, 11] [] ((_) ∧ (¬ ((0 : Int) ≤ (idxK l v n)))) [(0, iV v), (1, sV .i64 l n), (11, bV false)] [] 0 ⟨(C_Index l n v zo zo), zo⟩ ?_
 refine zfs ?_
 refine AW.seq ?_
 refine zr [.no, .call [] (oV 0 0 1 1) [(0, some (22, .cs [.own 1 0 2 1 true])), (1, some (3, .ds [iD 1, iD 2]))] 2 [] none, .no, .no] [1, 15, 16, 17] [0, 1] _ [(1, sV .i64 l n), (15, oV 0 0 1 1), (16, iV 1), (17, iV 0)] [(0, some (22, .cs [.own 1 0 2 1 true])), (1, some (3, .ds [iD 1, iD 2]))] 2 (D_else3 v zo) ?_
 refine AW.block ?_
 refine AW.rounds 4 ?_
 refine AWr.s ?_
 refine zr [.b true] [1, 15, 16, 17, 18] [0, 1] (((0 : Int) < 1)) [(1, sV .i64 l n), (15, oV 0 0 1 1), (16, iV 1), (17, iV 0), (18, bV true)] [(0, some (22, .cs [.own 1 0 2 1 true])), (1, some (3, .ds [iD 1, iD 2]))] 2 zo ?_
 refine AW.seq ?_
 refine zts ?_
 refine AW.seq ?_
 refine AW.block ?_
 refine zr [.n2 0 0, .no, .no] [1, 7, 15, 16, 17] [0, 1] (((0 : Int) = 0) ∧ ((0 : Nat) < 1) ∧ ((0 : Nat) + 0 * 1 = 0)) [(1, sV .i64 l n), (7, oV 1 0 2 1), (15, oV 0 0 1 1), (16, iV 1), (17, iV 0)] [(0, some (22, .cs [.own 1 0 2 1 true])), (1, some (3, .ds [iD 1, iD 2]))] 2 ⟨rfl, zo, zo⟩ ?_
 refine zr [.no, .no, .call [] (oV 0 0 2 1) [(0, some (3, .ds [iD 1, iD 2]))] 1 [none] none, .no, .no, .no, .b true] [1, 7, 15, 16, 17, 27] [0, 1] (([iD 1, iD 2].length = 2 * 1) ∧ (noSlPV (oV 0 0 2 1) = true) ∧ ([iD 1, iD 2].all noSlD = true) ∧ (_) ∧ (((2 : Int) = 2))) [(1, sV .i64 l n), (7, oV 1 0 2 1), (15, oV 0 0 1 1), (16, iV 1), (17, iV 0), (27, bV true)] [(0, some (22, .cs [.own 1 0 2 1 true])), (1, some (3, .ds [iD 1, iD 2]))] 3 ⟨zl07d2, rfl, zl07d4, (D_Com23 1 2 l n zo zo zl07d1 zl07d1), zo⟩ ?_
 refine zt ?_
 refine zr [.no, .no, .no] [4, 5] [1] True [(4, oV 1 0 2 1), (5, iV 23170)] [(1, some (3, .ds [iD 1, iD 2]))] 3 trivial ?_
 refine AW.ret ?_
 exact EndP.of (.inr rfl) [(0, 1)] (P := ((0 : Nat) = 0) ∧ ((2 : Nat) = 2) ∧ ((23170 : Int) = 23170) ∧ (([iD 1, iD 2] : List D) = [iD 1, iD 2])) zk ⟨rfl, rfl, rfl, rfl⟩
theorem D_goals3b (l : List Int) (n : Nat) (v : Int) (hn : List.length l = n) (hm : n ≤ 1000000) (hv : idxK l v n < 0) (h : v = 3) (h1 : idxK l 1 n < 0) : Fun 54 [iE v, .c (.d (D.sl (dI .i64 l) n))] (toG []) 0 (.tup [.c (.d (D.lit (.slice none 0 0))), iE 0]) (toG []) 0 := by
 refine Fun.mk (n := 30) Tryz.func54 rfl rfl (Nat.le_of_ble_eq_true rfl) ?_
 intro cx hcx
 refine zr [.no, .no] [0, 1] [] True [(0, iV v), (1, sV .i64 l n)] [] 0 trivial ?_
 refine AW.seq ?_
 refine zr [.no, .no, .call [] (iV (idxK l v n)) [] 0 [] none, .b false] [0, 1, 11] [] ((_) ∧ (¬ ((0 : Int) ≤ (idxK l v n)))) [(0, iV v), (1, sV .i64 l n), (11, bV false)] [] 0 ⟨(C_Index l n v zo zo), zo⟩ ?_
 refine zfs ?_
 refine AW.seq ?_
 refine zr [.no, .call [] (oV 0 0 1 1) [(0, some (22, .cs [.own 1 0 2 1 true])), (1, some (3, .ds [iD 1, iD 2]))] 2 [] none, .no, .no] [1, 15, 16, 17] [0, 1] _ [(1, sV .i64 l n), (15, oV 0 0 1 1), (16, iV 1), (17, iV 0)] [(0, some (22, .cs [.own 1 0 2 1 true])), (1, some (3, .ds [iD 1, iD 2]))] 2 (D_else3 v zo) ?_
 refine AW.block ?_
 refine AW.rounds 4 ?_
 refine AWr.s ?_
 refine zr [.b true] [1, 15, 16, 17, 18] [0, 1] (((0 : Int) < 1)) [(1, sV .i64 l n), (15, oV 0 0 1 1), (16, iV 1), (17, iV 0), (18, bV true)] [(0, some (22, .cs [.own 1 0 2 1 true])), (1, some (3, .ds [iD 1, iD 2]))] 2 zo ?_
 refine AW.seq ?_
 refine zts ?_
 refine AW.seq ?_
 refine AW.block ?_
 refine zr [.n2 0 0, .no, .no] [1, 7, 15, 16, 17] [0, 1] (((0 : Int) = 0) ∧ ((0 : Nat) < 1) ∧ ((0 : Nat) + 0 * 1 = 0)) [(1, sV .i64 l n), (7, oV 1 0 2 1), (15, oV 0 0 1 1), (16, iV 1), (17, iV 0)] [(0, some (22, .cs [.own 1 0 2 1 true])), (1, some (3, .ds [iD 1, iD 2]))] 2 ⟨rfl, zo, zo⟩ ?_
 by_cases hx1 : ((idxK l 2 n) < 0)
 ·refine zr [.no, .no, .call [] (nV) [] 0 [none] none, .no, .no, .no, .b false] [1, 7, 15, 16, 17, 27] [0, 1] (([iD 1, iD 2].length = 2 * 1) ∧ (noSlPV (nV) = true) ∧ (_) ∧ (¬ ((0 : Int) = 2))) [(1, sV .i64 l n), (7, oV 1 0 2 1), (15, oV 0 0 1 1), (16, iV 1), (17, iV 0), (27, bV false)] [(0, some (22, .cs [.own 1 0 2 1 true])), (1, some (3, .ds [iD 1, iD 2]))] 2 ⟨zl07d2, rfl, (D_Com20 1 2 l n zo zo zl07d1 zl07d1), zo⟩ ?_
  refine zfs ?_
  refine zg [.w, .no] [1, 15, 16, 17] [0, 1] ((-9223372036854775808) ≤ (1 : Int) ∧ (1 : Int) ≤ 9223372036854775807) [(1, sV .i64 l n), (15, oV 0 0 1 1), (16, iV 1), (17, iV 1)] [(0, some (22, .cs [.own 1 0 2 1 true])), (1, some (3, .ds [iD 1, iD 2]))] 2 ⟨by omega, by omega⟩ ?_
  refine AWr.s ?_
  refine zr [.b false] [1, 15, 16, 17, 18] [0, 1] (¬ ((1 : Int) < 1)) [(1, sV .i64 l n), (15, oV 0 0 1 1), (16, iV 1), (17, iV 1), (18, bV false)] [(0, some (22, .cs [.own 1 0 2 1 true])), (1, some (3, .ds [iD 1, iD 2]))] 2 zo ?_
  refine AW.seq ?_
  refine zf ?_
  refine AW.exit ?_
  refine zr [.no, .no] [4, 5] [] True [(4, nV), (5, iV 0)] [] 2 trivial ?_
  refine AW.ret ?_
  exact EndP.of (.inr rfl) [] (P := ((.slice none 0 0 : Value) = .slice none 0 0) ∧ ((0 : Int) = 0)) zk ⟨rfl, rfl⟩
 ·refine zr [.no, .no, .call [] (oV 0 0 1 1) [(0, some (3, .ds [iD 2]))] 1 [none] none, .no, .no, .no, .b false] [1, 7, 15, 16, 17, 27] [0, 1] (([iD 1, iD 2].length = 2 * 1) ∧ (noSlPV (oV 0 0 1 1) = true) ∧ ([iD 2].all noSlD = true) ∧ (_) ∧ (¬ ((1 : Int) = 2))) [(1, sV .i64 l n), (7, oV 1 0 2 1), (15, oV 0 0 1 1), (16, iV 1), (17, iV 0), (27, bV false)] [(0, some (22, .cs [.own 1 0 2 1 true])), (1, some (3, .ds [iD 1, iD 2]))] 3 ⟨zl07d2, rfl, zl07d4, (D_Com22 1 2 l n zo zo zl07d1 zl07d1), zo⟩ ?_
  refine zfs ?_
  refine zg [.w, .no] [1, 15, 16, 17] [0, 1] ((-9223372036854775808) ≤ (1 : Int) ∧ (1 : Int) ≤ 9223372036854775807) [(1, sV .i64 l n), (15, oV 0 0 1 1), (16, iV 1), (17, iV 1)] [(0, some (22, .cs [.own 1 0 2 1 true])), (1, some (3, .ds [iD 1, iD 2]))] 3 ⟨by omega, by omega⟩ ?_
  refine AWr.s ?_
  refine zr [.b false] [1, 15, 16, 17, 18] [0, 1] (¬ ((1 : Int) < 1)) [(1, sV .i64 l n), (15, oV 0 0 1 1), (16, iV 1), (17, iV 1), (18, bV false)] [(0, some (22, .cs [.own 1 0 2 1 true])), (1, some (3, .ds [iD 1, iD 2]))] 3 zo ?_
  refine AW.seq ?_
  refine zf ?_
  refine AW.exit ?_
  refine zr [.no, .no] [4, 5] [] True [(4, nV), (5, iV 0)] [] 3 trivial ?_
  refine AW.ret ?_
  exact EndP.of (.inr rfl) [] (P := ((.slice none 0 0 : Value) = .slice none 0 0) ∧ ((0 : Int) = 0)) zk ⟨rfl, rfl⟩
theorem D_goals3c (l : List Int) (n : Nat) (v : Int) (hn : List.length l = n) (hm : n ≤ 1000000) (hv : idxK l v n < 0) (h : v = 3) (h1 : 0 ≤ idxK l 1 n) (h2 : idxK l 2 n < 0) : Fun 54 [iE v, .c (.d (D.sl (dI .i64 l) n))] (toG []) 0 (.tup [.c (.d (D.lit (.slice none 0 0))), iE 0]) (toG []) 0 := by
 refine Fun.mk (n := 30) Tryz.func54 rfl rfl (Nat.le_of_ble_eq_true rfl) ?_
 intro cx hcx
 refine zr [.no, .no] [0, 1] [] True [(0, iV v), (1, sV .i64 l n)] [] 0 trivial ?_
 refine AW.seq ?_
 refine zr [.no, .no, .call [] (iV (idxK l v n)) [] 0 [] none, .b false] [0, 1, 11] [] ((_) ∧ (¬ ((0 : Int) ≤ (idxK l v n)))) [(0, iV v), (1, sV .i64 l n), (11, bV false)] [] 0 ⟨(C_Index l n v zo zo), zo⟩ ?_
 refine zfs ?_
 refine AW.seq ?_
 refine zr [.no, .call [] (oV 0 0 1 1) [(0, some (22, .cs [.own 1 0 2 1 true])), (1, some (3, .ds [iD 1, iD 2]))] 2 [] none, .no, .no] [1, 15, 16, 17] [0, 1] _ [(1, sV .i64 l n), (15, oV 0 0 1 1), (16, iV 1), (17, iV 0)] [(0, some (22, .cs [.own 1 0 2 1 true])), (1, some (3, .ds [iD 1, iD 2]))] 2 (D_else3 v zo) ?_
 refine AW.block ?_
 refine AW.rounds 4 ?_
 refine AWr.s ?_
 refine zr [.b true] [1, 15, 16, 17, 18] [0, 1] (((0 : Int) < 1)) [(1, sV .i64 l n), (15, oV 0 0 1 1), (16, iV 1), (17, iV 0), (18, bV true)] [(0, some (22, .cs [.own 1 0 2 1 true])), (1, some (3, .ds [iD 1, iD 2]))] 2 zo ?_
 refine AW.seq ?_
 refine zts ?_
 refine AW.seq ?_
 refine AW.block ?_
 refine zr [.n2 0 0, .no, .no] [1, 7, 15, 16, 17] [0, 1] (((0 : Int) = 0) ∧ ((0 : Nat) < 1) ∧ ((0 : Nat) + 0 * 1 = 0)) [(1, sV .i64 l n), (7, oV 1 0 2 1), (15, oV 0 0 1 1), (16, iV 1), (17, iV 0)] [(0, some (22, .cs [.own 1 0 2 1 true])), (1, some (3, .ds [iD 1, iD 2]))] 2 ⟨rfl, zo, zo⟩ ?_
 refine zr [.no, .no, .call [] (oV 0 0 1 1) [(0, some (3, .ds [iD 1]))] 1 [none] none, .no, .no, .no, .b false] [1, 7, 15, 16, 17, 27] [0, 1] (([iD 1, iD 2].length = 2 * 1) ∧ (noSlPV (oV 0 0 1 1) = true) ∧ ([iD 1].all noSlD = true) ∧ (_) ∧ (¬ ((1 : Int) = 2))) [(1, sV .i64 l n), (7, oV 1 0 2 1), (15, oV 0 0 1 1), (16, iV 1), (17, iV 0), (27, bV false)] [(0, some (22, .cs [.own 1 0 2 1 true])), (1, some (3, .ds [iD 1, iD 2]))] 3 ⟨zl07d2, rfl, zl07d4, (D_Com21 1 2 l n zo zo zl07d1 zl07d1), zo⟩ ?_
 refine zfs ?_
 refine zg [.w, .no] [1, 15, 16, 17] [0, 1] ((-9223372036854775808) ≤ (1 : Int) ∧ (1 : Int) ≤ 9223372036854775807) [(1, sV .i64 l n), (15, oV 0 0 1 1), (16, iV 1), (17, iV 1)] [(0, some (22, .cs [.own 1 0 2 1 true])), (1, some (3, .ds [iD 1, iD 2]))] 3 ⟨by omega, by omega⟩ ?_
 refine AWr.s ?_
 refine zr [.b false] [1, 15, 16, 17, 18] [0, 1] (¬ ((1 : Int) < 1)) [(1, sV .i64 l n), (15, oV 0 0 1 1), (16, iV 1), (17, iV 1), (18, bV false)] [(0, some (22, .cs [.own 1 0 2 1 true])), (1, some (3, .ds [iD 1, iD 2]))] 3 zo ?_
 refine AW.seq ?_
 refine zf ?_
 refine AW.exit ?_
 refine zr [.no, .no] [4, 5] [] True [(4, nV), (5, iV 0)] [] 3 trivial ?_
 refine AW.ret ?_
 exact EndP.of (.inr rfl) [] (P := ((.slice none 0 0 : Value) = .slice none 0 0) ∧ ((0 : Int) = 0)) zk ⟨rfl, rfl⟩
theorem D_goals1a (l : List Int) (n : Nat) (v : Int) (hn : List.length l = n) (hm : n ≤ 1000000) (hv : idxK l v n < 0) (h : 1 ≤ v ∧ v ≤ 2) (h1 : 0 ≤ idxK l 3 n) : Fun 54 [iE v, .c (.d (D.sl (dI .i64 l) n))] (toG []) 0 (.tup [.c (.own 0 0 1 1 true), iE 23170]) (toG [(0, some (3, .ds [iD 3]))]) 1 := by
 refine Fun.mk (n := 30) Tryz.func54 rfl rfl (Nat.le_of_ble_eq_true rfl) ?_
 intro cx hcx
 refine zr [.no, .no] [0, 1] [] True [(0, iV v), (1, sV .i64 l n)] [] 0 trivial ?_
 refine AW.seq ?_
 refine zr [.no, .no, .call [] (iV (idxK l v n)) [] 0 [] none, .b false] [0, 1, 11] [] ((_) ∧ (¬ ((0 : Int) ≤ (idxK l v n)))) [(0, iV v), (1, sV .i64 l n), (11, bV false)] [] 0 ⟨(C_Index l n v zo zo), zo⟩ ?_
 refine zfs ?_
 refine AW.seq ?_
 refine zr [.no, .call [] (oV 0 0 1 1) [(0, some (22, .cs [.own 1 0 1 1 true])), (1, some (3, .ds [iD 3]))] 2 [] none, .no, .no] [1, 15, 16, 17] [0, 1] _ [(1, sV .i64 l n), (15, oV 0 0 1 1), (16, iV 1), (17, iV 0)] [(0, some (22, .cs [.own 1 0 1 1 true])), (1, some (3, .ds [iD 3]))] 2 (D_else1 v zo) ?_
 refine AW.block ?_
 refine AW.rounds 4 ?_
 refine AWr.s ?_
 refine zr [.b true] [1, 15, 16, 17, 18] [0, 1] (((0 : Int) < 1)) [(1, sV .i64 l n), (15, oV 0 0 1 1), (16, iV 1), (17, iV 0), (18, bV true)] [(0, some (22, .cs [.own 1 0 1 1 true])), (1, some (3, .ds [iD 3]))] 2 zo ?_
 refine AW.seq ?_
 refine zts ?_
 refine AW.seq ?_
 refine AW.block ?_
 refine zr [.n2 0 0, .no, .no] [1, 7, 15, 16, 17] [0, 1] (((0 : Int) = 0) ∧ ((0 : Nat) < 1) ∧ ((0 : Nat) + 0 * 1 = 0)) [(1, sV .i64 l n), (7, oV 1 0 1 1), (15, oV 0 0 1 1), (16, iV 1), (17, iV 0)] [(0, some (22, .cs [.own 1 0 1 1 true])), (1, some (3, .ds [iD 3]))] 2 ⟨rfl, zo, zo⟩ ?_
 refine zr [.no, .no, .call [] (oV 0 0 1 1) [(0, some (3, .ds [iD 3]))] 1 [none] none, .no, .no, .no, .b true] [1, 7, 15, 16, 17, 27] [0, 1] (([iD 3].length = 1 * 1) ∧ (noSlPV (oV 0 0 1 1) = true) ∧ ([iD 3].all noSlD = true) ∧ (_) ∧ (((1 : Int) = 1))) [(1, sV .i64 l n), (7, oV 1 0 1 1), (15, oV 0 0 1 1), (16, iV 1), (17, iV 0), (27, bV true)] [(0, some (22, .cs [.own 1 0 1 1 true])), (1, some (3, .ds [iD 3]))] 3 ⟨zl07d2, rfl, zl07d4, (D_Com1h 3 l n zo zo zl07d1), zo⟩ ?_
 refine zt ?_
 refine zr [.no, .no, .no] [4, 5] [1] True [(4, oV 1 0 1 1), (5, iV 23170)] [(1, some (3, .ds [iD 3]))] 3 trivial ?_
 refine AW.ret ?_
 exact EndP.of (.inr rfl) [(0, 1)] (P := ((0 : Nat) = 0) ∧ ((1 : Nat) = 1) ∧ ((23170 : Int) = 23170) ∧ (([iD 3] : List D) = [iD 3])) zk ⟨rfl, rfl, rfl, rfl⟩
theorem D_goals1b (l : List Int) (n : Nat) (v : Int) (hn : List.length l = n) (hm : n ≤ 1000000) (hv : idxK l v n < 0) (h : 1 ≤ v ∧ v ≤ 2) (h1 : idxK l 3 n < 0) : Fun 54 [iE v, .c (.d (D.sl (dI .i64 l) n))] (toG []) 0 (.tup [.c (.d (D.lit (.slice none 0 0))), iE 0]) (toG []) 0 := by
 refine Fun.mk (n := 30) Tryz.func54 rfl rfl (Nat.le_of_ble_eq_true rfl) ?_
 intro cx hcx
 refine zr [.no, .no] [0, 1] [] True [(0, iV v), (1, sV .i64 l n)] [] 0 trivial ?_
 refine AW.seq ?_
 refine zr [.no, .no, .call [] (iV (idxK l v n)) [] 0 [] none, .b false] [0, 1, 11] [] ((_) ∧ (¬ ((0 : Int) ≤ (idxK l v n)))) [(0, iV v), (1, sV .i64 l n), (11, bV false)] [] 0 ⟨(C_Index l n v zo zo), zo⟩ ?_
 refine zfs ?_
 refine AW.seq ?_
 refine zr [.no, .call [] (oV 0 0 1 1) [(0, some (22, .cs [.own 1 0 1 1 true])), (1, some (3, .ds [iD 3]))] 2 [] none, .no, .no] [1, 15, 16, 17] [0, 1] _ [(1, sV .i64 l n), (15, oV 0 0 1 1), (16, iV 1), (17, iV 0)] [(0, some (22, .cs [.own 1 0 1 1 true])), (1, some (3, .ds [iD 3]))] 2 (D_else1 v zo) ?_
 refine AW.block ?_
 refine AW.rounds 4 ?_
 refine AWr.s ?_
 refine zr [.b true] [1, 15, 16, 17, 18] [0, 1] (((0 : Int) < 1)) [(1, sV .i64 l n), (15, oV 0 0 1 1), (16, iV 1), (17, iV 0), (18, bV true)] [(0, some (22, .cs [.own 1 0 1 1 true])), (1, some (3, .ds [iD 3]))] 2 zo ?_
 refine AW.seq ?_
 refine zts ?_
 refine AW.seq ?_
 refine AW.block ?_
 refine zr [.n2 0 0, .no, .no] [1, 7, 15, 16, 17] [0, 1] (((0 : Int) = 0) ∧ ((0 : Nat) < 1) ∧ ((0 : Nat) + 0 * 1 = 0)) [(1, sV .i64 l n), (7, oV 1 0 1 1), (15, oV 0 0 1 1), (16, iV 1), (17, iV 0)] [(0, some (22, .cs [.own 1 0 1 1 true])), (1, some (3, .ds [iD 3]))] 2 ⟨rfl, zo, zo⟩ ?_
 refine zr [.no, .no, .call [] (nV) [] 0 [none] none, .no, .no, .no, .b false] [1, 7, 15, 16, 17, 27] [0, 1] (([iD 3].length = 1 * 1) ∧ (noSlPV (nV) = true) ∧ (_) ∧ (¬ ((0 : Int) = 1))) [(1, sV .i64 l n), (7, oV 1 0 1 1), (15, oV 0 0 1 1), (16, iV 1), (17, iV 0), (27, bV false)] [(0, some (22, .cs [.own 1 0 1 1 true])), (1, some (3, .ds [iD 3]))] 2 ⟨zl07d2, rfl, (D_Com1m 3 l n zo zo zl07d1), zo⟩ ?_
 refine zfs ?_
 refine zg [.w, .no] [1, 15, 16, 17] [0, 1] ((-9223372036854775808) ≤ (1 : Int) ∧ (1 : Int) ≤ 9223372036854775807) [(1, sV .i64 l n), (15, oV 0 0 1 1), (16, iV 1), (17, iV 1)] [(0, some (22, .cs [.own 1 0 1 1 true])), (1, some (3, .ds [iD 3]))] 2 ⟨by omega, by omega⟩ ?_
 refine AWr.s ?_
 refine zr [.b false] [1, 15, 16, 17, 18] [0, 1] (¬ ((1 : Int) < 1)) [(1, sV .i64 l n), (15, oV 0 0 1 1), (16, iV 1), (17, iV 1), (18, bV false)] [(0, some (22, .cs [.own 1 0 1 1 true])), (1, some (3, .ds [iD 3]))] 2 zo ?_
 refine AW.seq ?_
 refine zf ?_
 refine AW.exit ?_
 refine zr [.no, .no] [4, 5] [] True [(4, nV), (5, iV 0)] [] 2 trivial ?_
 refine AW.ret ?_
 exact EndP.of (.inr rfl) [] (P := ((.slice none 0 0 : Value) = .slice none 0 0) ∧ ((0 : Int) = 0)) zk ⟨rfl, rfl⟩
theorem D_goals4 (l : List Int) (n : Nat) (v : Int) (hn : List.length l = n) (hm : n ≤ 1000000) (hv : idxK l v n < 0) (h : v = 4) : Fun 54 [iE v, .c (.d (D.sl (dI .i64 l) n))] (toG []) 0 (.tup [.c (.d (D.lit (.slice none 0 0))), iE 0]) (toG []) 0 := by
 refine Fun.mk (n := 30) Tryz.func54 rfl rfl (Nat.le_of_ble_eq_true rfl) ?_
 intro cx hcx
 refine zr [.no, .no] [0, 1] [] True [(0, iV v), (1, sV .i64 l n)] [] 0 trivial ?_
 refine AW.seq ?_
 refine zr [.no, .no, .call [] (iV (idxK l v n)) [] 0 [] none, .b false] [0, 1, 11] [] ((_) ∧ (¬ ((0 : Int) ≤ (idxK l v n)))) [(0, iV v), (1, sV .i64 l n), (11, bV false)] [] 0 ⟨(C_Index l n v zo zo), zo⟩ ?_
 refine zfs ?_
 refine AW.seq ?_
 refine zr [.no, .call [] (nV) [] 0 [] none, .no, .no] [1, 15, 16, 17] [] _ [(1, sV .i64 l n), (15, nV), (16, iV 0), (17, iV 0)] [] 0 (D_else4 v zo) ?_
 refine AW.block ?_
 refine AW.rounds 4 ?_
 refine AWr.s ?_
 refine zr [.b false] [1, 15, 16, 17, 18] [] (¬ ((0 : Int) < 0)) [(1, sV .i64 l n), (15, nV), (16, iV 0), (17, iV 0), (18, bV false)] [] 0 zo ?_
 refine AW.seq ?_
 refine zf ?_
 refine AW.exit ?_
 refine zr [.no, .no] [4, 5] [] True [(4, nV), (5, iV 0)] [] 0 trivial ?_
 refine AW.ret ?_
 exact EndP.of (.inr rfl) [] (P := ((.slice none 0 0 : Value) = .slice none 0 0) ∧ ((0 : Int) = 0)) zk ⟨rfl, rfl⟩
theorem D_goals5a (l : List Int) (n : Nat) (v : Int) (hn : List.length l = n) (hm : n ≤ 1000000) (hv : idxK l v n < 0) (h : 5 ≤ v ∧ v ≤ 8) (h1 : 0 ≤ idxK l (w1 v) n) : Fun 54 [iE v, .c (.d (D.sl (dI .i64 l) n))] (toG []) 0 (.tup [.c (.own 0 0 1 1 true), iE 23170]) (toG [(0, some (3, .ds [iD (w1 v)]))]) 1 := by
 refine Fun.mk (n := 30) Tryz.func54 rfl rfl (Nat.le_of_ble_eq_true rfl) ?_
 intro cx hcx
 refine zr [.no, .no] [0, 1] [] True [(0, iV v), (1, sV .i64 l n)] [] 0 trivial ?_
 refine AW.seq ?_
 refine zr [.no, .no, .call [] (iV (idxK l v n)) [] 0 [] none, .b false] [0, 1, 11] [] ((_) ∧ (¬ ((0 : Int) ≤ (idxK l v n)))) [(0, iV v), (1, sV .i64 l n), (11, bV false)] [] 0 ⟨(C_Index l n v zo zo), zo⟩ ?_
 refine zfs ?_
 refine AW.seq ?_
 refine zr [.no, .call [] (oV 0 0 3 1) [(0, some (22, .cs [.own 1 0 1 1 true, .own 2 0 1 1 true, .own 3 0 1 1 true])), (1, some (3, .ds [iD (w1 v)])), (2, some (3, .ds [iD (w2 v)])), (3, some (3, .ds [iD 3]))] 4 [] none, .no, .no] [1, 15, 16, 17] [0, 1, 2, 3] _ [(1, sV .i64 l n), (15, oV 0 0 3 1), (16, iV 3), (17, iV 0)] [(0, some (22, .cs [.own 1 0 1 1 true, .own 2 0 1 1 true, .own 3 0 1 1 true])), (1, some (3, .ds [iD (w1 v)])), (2, some (3, .ds [iD (w2 v)])), (3, some (3, .ds [iD 3]))] 4 (D_else5 v zo) ?_
 refine AW.block ?_
 refine AW.rounds 4 ?_
 refine AWr.s ?_
 refine zr [.b true] [1, 15, 16, 17, 18] [0, 1, 2, 3] (((0 : Int) < 3)) [(1, sV .i64 l n), (15, oV 0 0 3 1), (16, iV 3), (17, iV 0), (18, bV true)] [(0, some (22, .cs [.own 1 0 1 1 true, .own 2 0 1 1 true, .own 3 0 1 1 true])), (1, some (3, .ds [iD (w1 v)])), (2, some (3, .ds [iD (w2 v)])), (3, some (3, .ds [iD 3]))] 4 zo ?_
 refine AW.seq ?_
 refine zts ?_
 refine AW.seq ?_
 refine AW.block ?_
 refine zr [.n2 0 0, .no, .no] [1, 7, 15, 16, 17] [0, 1, 2, 3] (((0 : Int) = 0) ∧ ((0 : Nat) < 3) ∧ ((0 : Nat) + 0 * 1 = 0)) [(1, sV .i64 l n), (7, oV 1 0 1 1), (15, oV 0 0 3 1), (16, iV 3), (17, iV 0)] [(0, some (22, .cs [.own 1 0 1 1 true, .own 2 0 1 1 true, .own 3 0 1 1 true])), (1, some (3, .ds [iD (w1 v)])), (2, some (3, .ds [iD (w2 v)])), (3, some (3, .ds [iD 3]))] 4 ⟨rfl, zo, zo⟩ ?_
 refine zr [.no, .no, .call [] (oV 0 0 1 1) [(0, some (3, .ds [iD (w1 v)]))] 1 [none] none, .no, .no, .no, .b true] [1, 7, 15, 16, 17, 27] [0, 1, 2, 3] (([iD (w1 v)].length = 1 * 1) ∧ (noSlPV (oV 0 0 1 1) = true) ∧ ([iD (w1 v)].all noSlD = true) ∧ (_) ∧ (((1 : Int) = 1))) [(1, sV .i64 l n), (7, oV 1 0 1 1), (15, oV 0 0 3 1), (16, iV 3), (17, iV 0), (27, bV true)] [(0, some (22, .cs [.own 1 0 1 1 true, .own 2 0 1 1 true, .own 3 0 1 1 true])), (1, some (3, .ds [iD (w1 v)])), (2, some (3, .ds [iD (w2 v)])), (3, some (3, .ds [iD 3]))] 5 ⟨zl07d2, rfl, zl07d4, (D_Com1h (w1 v) l n zo zo zl07d1), zo⟩ ?_
 refine zt ?_
 refine zr [.no, .no, .no] [4, 5] [1] True [(4, oV 1 0 1 1), (5, iV 23170)] [(1, some (3, .ds [iD (w1 v)]))] 5 trivial ?_
 refine AW.ret ?_
 exact EndP.of (.inr rfl) [(0, 1)] (P := ((0 : Nat) = 0) ∧ ((1 : Nat) = 1) ∧ ((23170 : Int) = 23170) ∧ (([iD (w1 v)] : List D) = [iD (w1 v)])) zk ⟨rfl, rfl, rfl, rfl⟩
theorem D_goals5b (l : List Int) (n : Nat) (v : Int) (hn : List.length l = n) (hm : n ≤ 1000000) (hv : idxK l v n < 0) (h : 5 ≤ v ∧ v ≤ 8) (h1 : idxK l (w1 v) n < 0) (h2 : 0 ≤ idxK l (w2 v) n) : Fun 54 [iE v, .c (.d (D.sl (dI .i64 l) n))] (toG []) 0 (.tup [.c (.own 0 0 1 1 true), iE 23170]) (toG [(0, some (3, .ds [iD (w2 v)]))]) 1 := by
 refine Fun.mk (n := 30) Tryz.func54 rfl rfl (Nat.le_of_ble_eq_true rfl) ?_
 intro cx hcx
 refine zr [.no, .no] [0, 1] [] True [(0, iV v), (1, sV .i64 l n)] [] 0 trivial ?_
 refine AW.seq ?_
 refine zr [.no, .no, .call [] (iV (idxK l v n)) [] 0 [] none, .b false] [0, 1, 11] [] ((_) ∧ (¬ ((0 : Int) ≤ (idxK l v n)))) [(0, iV v), (1, sV .i64 l n), (11, bV false)] [] 0 ⟨(C_Index l n v zo zo), zo⟩ ?_
 refine zfs ?_
 refine AW.seq ?_
 refine zr [.no, .call [] (oV 0 0 3 1) [(0, some (22, .cs [.own 1 0 1 1 true, .own 2 0 1 1 true, .own 3 0 1 1 true])), (1, some (3, .ds [iD (w1 v)])), (2, some (3, .ds [iD (w2 v)])), (3, some (3, .ds [iD 3]))] 4 [] none, .no, .no] [1, 15, 16, 17] [0, 1, 2, 3] _ [(1, sV .i64 l n), (15, oV 0 0 3 1), (16, iV 3), (17, iV 0)] [(0, some (22, .cs [.own 1 0 1 1 true, .own 2 0 1 1 true, .own 3 0 1 1 true])), (1, some (3, .ds [iD (w1 v)])), (2, some (3, .ds [iD (w2 v)])), (3, some (3, .ds [iD 3]))] 4 (D_else5 v zo) ?_
 refine AW.block ?_
 refine AW.rounds 4 ?_
 refine AWr.s ?_
 refine zr [.b true] [1, 15, 16, 17, 18] [0, 1, 2, 3] (((0 : Int) < 3)) [(1, sV .i64 l n), (15, oV 0 0 3 1), (16, iV 3), (17, iV 0), (18, bV true)] [(0, some (22, .cs [.own 1 0 1 1 true, .own 2 0 1 1 true, .own 3 0 1 1 true])), (1, some (3, .ds [iD (w1 v)])), (2, some (3, .ds [iD (w2 v)])), (3, some (3, .ds [iD 3]))] 4 zo ?_
 refine AW.seq ?_
 refine zts ?_
 refine AW.seq ?_
 refine AW.block ?_
 refine zr [.n2 0 0, .no, .no] [1, 7, 15, 16, 17] [0, 1, 2, 3] (((0 : Int) = 0) ∧ ((0 : Nat) < 3) ∧ ((0 : Nat) + 0 * 1 = 0)) [(1, sV .i64 l n), (7, oV 1 0 1 1), (15, oV 0 0 3 1), (16, iV 3), (17, iV 0)] [(0, some (22, .cs [.own 1 0 1 1 true, .own 2 0 1 1 true, .own 3 0 1 1 true])), (1, some (3, .ds [iD (w1 v)])), (2, some (3, .ds [iD (w2 v)])), (3, some (3, .ds [iD 3]))] 4 ⟨rfl, zo, zo⟩ ?_
 refine zr [.no, .no, .call [] (nV) [] 0 [none] none, .no, .no, .no, .b false] [1, 7, 15, 16, 17, 27] [0, 1, 2, 3] (([iD (w1 v)].length = 1 * 1) ∧ (noSlPV (nV) = true) ∧ (_) ∧ (¬ ((0 : Int) = 1))) [(1, sV .i64 l n), (7, oV 1 0 1 1), (15, oV 0 0 3 1), (16, iV 3), (17, iV 0), (27, bV false)] [(0, some (22, .cs [.own 1 0 1 1 true, .own 2 0 1 1 true, .own 3 0 1 1 true])), (1, some (3, .ds [iD (w1 v)])), (2, some (3, .ds [iD (w2 v)])), (3, some (3, .ds [iD 3]))] 4 ⟨zl07d2, rfl, (D_Com1m (w1 v) l n zo zo zl07d1), zo⟩ ?_
 refine zfs ?_
 refine zg [.w, .no] [1, 15, 16, 17] [0, 1, 2, 3] ((-9223372036854775808) ≤ (1 : Int) ∧ (1 : Int) ≤ 9223372036854775807) [(1, sV .i64 l n), (15, oV 0 0 3 1), (16, iV 3), (17, iV 1)] [(0, some (22, .cs [.own 1 0 1 1 true, .own 2 0 1 1 true, .own 3 0 1 1 true])), (1, some (3, .ds [iD (w1 v)])), (2, some (3, .ds [iD (w2 v)])), (3, some (3, .ds [iD 3]))] 4 ⟨by omega, by omega⟩ ?_
 refine AWr.s ?_
 refine zr [.b true] [1, 15, 16, 17, 18] [0, 1, 2, 3] (((1 : Int) < 3)) [(1, sV .i64 l n), (15, oV 0 0 3 1), (16, iV 3), (17, iV 1), (18, bV true)] [(0, some (22, .cs [.own 1 0 1 1 true, .own 2 0 1 1 true, .own 3 0 1 1 true])), (1, some (3, .ds [iD (w1 v)])), (2, some (3, .ds [iD (w2 v)])), (3, some (3, .ds [iD 3]))] 4 zo ?_
 refine AW.seq ?_
 refine zts ?_
 refine AW.seq ?_
 refine AW.block ?_
 refine zr [.n2 1 1, .no, .no] [1, 7, 15, 16, 17] [0, 1, 2, 3] (((1 : Int) = 1) ∧ ((1 : Nat) < 3) ∧ ((0 : Nat) + 1 * 1 = 1)) [(1, sV .i64 l n), (7, oV 2 0 1 1), (15, oV 0 0 3 1), (16, iV 3), (17, iV 1)] [(0, some (22, .cs [.own 1 0 1 1 true, .own 2 0 1 1 true, .own 3 0 1 1 true])), (1, some (3, .ds [iD (w1 v)])), (2, some (3, .ds [iD (w2 v)])), (3, some (3, .ds [iD 3]))] 4 ⟨rfl, zo, zo⟩ ?_
 refine zr [.no, .no, .call [] (oV 0 0 1 1) [(0, some (3, .ds [iD (w2 v)]))] 1 [none] none, .no, .no, .no, .b true] [1, 7, 15, 16, 17, 27] [0, 1, 2, 3] (([iD (w2 v)].length = 1 * 1) ∧ (noSlPV (oV 0 0 1 1) = true) ∧ ([iD (w2 v)].all noSlD = true) ∧ (_) ∧ (((1 : Int) = 1))) [(1, sV .i64 l n), (7, oV 2 0 1 1), (15, oV 0 0 3 1), (16, iV 3), (17, iV 1), (27, bV true)] [(0, some (22, .cs [.own 1 0 1 1 true, .own 2 0 1 1 true, .own 3 0 1 1 true])), (1, some (3, .ds [iD (w1 v)])), (2, some (3, .ds [iD (w2 v)])), (3, some (3, .ds [iD 3]))] 5 ⟨zl07d2, rfl, zl07d4, (D_Com1h (w2 v) l n zo zo zl07d1), zo⟩ ?_
 refine zt ?_
 refine zr [.no, .no, .no] [4, 5] [2] True [(4, oV 2 0 1 1), (5, iV 23170)] [(2, some (3, .ds [iD (w2 v)]))] 5 trivial ?_
 refine AW.ret ?_
 exact EndP.of (.inr rfl) [(0, 2)] (P := ((0 : Nat) = 0) ∧ ((1 : Nat) = 1) ∧ ((23170 : Int) = 23170) ∧ (([iD (w2 v)] : List D) = [iD (w2 v)])) zk ⟨rfl, rfl, rfl, rfl⟩
theorem D_goals5c (l : List Int) (n : Nat) (v : Int) (hn : List.length l = n) (hm : n ≤ 1000000) (hv : idxK l v n < 0) (h : 5 ≤ v ∧ v ≤ 8) (h1 : idxK l (w1 v) n < 0) (h2 : idxK l (w2 v) n < 0) (h3 : 0 ≤ idxK l 3 n) : Fun 54 [iE v, .c (.d (D.sl (dI .i64 l) n))] (toG []) 0 (.tup [.c (.own 0 0 1 1 true), iE 23170]) (toG [(0, some (3, .ds [iD 3]))]) 1 := by
 refine Fun.mk (n := 30) Tryz.func54 rfl rfl (Nat.le_of_ble_eq_true rfl) ?_
 intro cx hcx
 refine zr [.no, .no] [0, 1] [] True [(0, iV v), (1, sV .i64 l n)] [] 0 trivial ?_
 refine AW.seq ?_
 refine zr [.no, .no, .call [] (iV (idxK l v n)) [] 0 [] none, .b false] [0, 1, 11] [] ((_) ∧ (¬ ((0 : Int) ≤ (idxK l v n)))) [(0, iV v), (1, sV .i64 l n), (11, bV false)] [] 0 ⟨(C_Index l n v zo zo), zo⟩ ?_
 refine zfs ?_
 refine AW.seq ?_
 refine zr [.no, .call [] (oV 0 0 3 1) [(0, some (22, .cs [.own 1 0 1 1 true, .own 2 0 1 1 true, .own 3 0 1 1 true])), (1, some (3, .ds [iD (w1 v)])), (2, some (3, .ds [iD (w2 v)])), (3, some (3, .ds [iD 3]))] 4 [] none, .no, .no] [1, 15, 16, 17] [0, 1, 2, 3] _ [(1, sV .i64 l n), (15, oV 0 0 3 1), (16, iV 3), (17, iV 0)] [(0, some (22, .cs [.own 1 0 1 1 true, .own 2 0 1 1 true, .own 3 0 1 1 true])), (1, some (3, .ds [iD (w1 v)])), (2, some (3, .ds [iD (w2 v)])), (3, some (3, .ds [iD 3]))] 4 (D_else5 v zo) ?_
 refine AW.block ?_
 refine AW.rounds 4 ?_
 refine AWr.s ?_
 refine zr [.b true] [1, 15, 16, 17, 18] [0, 1, 2, 3] (((0 : Int) < 3)) [(1, sV .i64 l n), (15, oV 0 0 3 1), (16, iV 3), (17, iV 0), (18, bV true)] [(0, some (22, .cs [.own 1 0 1 1 true, .own 2 0 1 1 true, .own 3 0 1 1 true])), (1, some (3, .ds [iD (w1 v)])), (2, some (3, .ds [iD (w2 v)])), (3, some (3, .ds [iD 3]))] 4 zo ?_
 refine AW.seq ?_
 refine zts ?_
 refine AW.seq ?_
 refine AW.block ?_
 refine zr [.n2 0 0, .no, .no] [1, 7, 15, 16, 17] [0, 1, 2, 3] (((0 : Int) = 0) ∧ ((0 : Nat) < 3) ∧ ((0 : Nat) + 0 * 1 = 0)) [(1, sV .i64 l n), (7, oV 1 0 1 1), (15, oV 0 0 3 1), (16, iV 3), (17, iV 0)] [(0, some (22, .cs [.own 1 0 1 1 true, .own 2 0 1 1 true, .own 3 0 1 1 true])), (1, some (3, .ds [iD (w1 v)])), (2, some (3, .ds [iD (w2 v)])), (3, some (3, .ds [iD 3]))] 4 ⟨rfl, zo, zo⟩ ?_
 refine zr [.no, .no, .call [] (nV) [] 0 [none] none, .no, .no, .no, .b false] [1, 7, 15, 16, 17, 27] [0, 1, 2, 3] (([iD (w1 v)].length = 1 * 1) ∧ (noSlPV (nV) = true) ∧ (_) ∧ (¬ ((0 : Int) = 1))) [(1, sV .i64 l n), (7, oV 1 0 1 1), (15, oV 0 0 3 1), (16, iV 3), (17, iV 0), (27, bV false)] [(0, some (22, .cs [.own 1 0 1 1 true, .own 2 0 1 1 true, .own 3 0 1 1 true])), (1, some (3, .ds [iD (w1 v)])), (2, some (3, .ds [iD (w2 v)])), (3, some (3, .ds [iD 3]))] 4 ⟨zl07d2, rfl, (D_Com1m (w1 v) l n zo zo zl07d1), zo⟩ ?_
 refine zfs ?_
 refine zg [.w, .no] [1, 15, 16, 17] [0, 1, 2, 3] ((-9223372036854775808) ≤ (1 : Int) ∧ (1 : Int) ≤ 9223372036854775807) [(1, sV .i64 l n), (15, oV 0 0 3 1), (16, iV 3), (17, iV 1)] [(0, some (22, .cs [.own 1 0 1 1 true, .own 2 0 1 1 true, .own 3 0 1 1 true])), (1, some (3, .ds [iD (w1 v)])), (2, some (3, .ds [iD (w2 v)])), (3, some (3, .ds [iD 3]))] 4 ⟨by omega, by omega⟩ ?_
 refine AWr.s ?_
 refine zr [.b true] [1, 15, 16, 17, 18] [0, 1, 2, 3] (((1 : Int) < 3)) [(1, sV .i64 l n), (15, oV 0 0 3 1), (16, iV 3), (17, iV 1), (18, bV true)] [(0, some (22, .cs [.own 1 0 1 1 true, .own 2 0 1 1 true, .own 3 0 1 1 true])), (1, some (3, .ds [iD (w1 v)])), (2, some (3, .ds [iD (w2 v)])), (3, some (3, .ds [iD 3]))] 4 zo ?_
 refine AW.seq ?_
 refine zts ?_
 refine AW.seq ?_
 refine AW.block ?_
 refine zr [.n2 1 1, .no, .no] [1, 7, 15, 16, 17] [0, 1, 2, 3] (((1 : Int) = 1) ∧ ((1 : Nat) < 3) ∧ ((0 : Nat) + 1 * 1 = 1)) [(1, sV .i64 l n), (7, oV 2 0 1 1), (15, oV 0 0 3 1), (16, iV 3), (17, iV 1)] [(0, some (22, .cs [.own 1 0 1 1 true, .own 2 0 1 1 true, .own 3 0 1 1 true])), (1, some (3, .ds [iD (w1 v)])), (2, some (3, .ds [iD (w2 v)])), (3, some (3, .ds [iD 3]))] 4 ⟨rfl, zo, zo⟩ ?_
 refine zr [.no, .no, .call [] (nV) [] 0 [none] none, .no, .no, .no, .b false] [1, 7, 15, 16, 17, 27] [0, 1, 2, 3] (([iD (w2 v)].length = 1 * 1) ∧ (noSlPV (nV) = true) ∧ (_) ∧ (¬ ((0 : Int) = 1))) [(1, sV .i64 l n), (7, oV 2 0 1 1), (15, oV 0 0 3 1), (16, iV 3), (17, iV 1), (27, bV false)] [(0, some (22, .cs [.own 1 0 1 1 true, .own 2 0 1 1 true, .own 3 0 1 1 true])), (1, some (3, .ds [iD (w1 v)])), (2, some (3, .ds [iD (w2 v)])), (3, some (3, .ds [iD 3]))] 4 ⟨zl07d2, rfl, (D_Com1m (w2 v) l n zo zo zl07d1), zo⟩ ?_
 refine zfs ?_
 refine zg [.w, .no] [1, 15, 16, 17] [0, 1, 2, 3] ((-9223372036854775808) ≤ (2 : Int) ∧ (2 : Int) ≤ 9223372036854775807) [(1, sV .i64 l n), (15, oV 0 0 3 1), (16, iV 3), (17, iV 2)] [(0, some (22, .cs [.own 1 0 1 1 true, .own 2 0 1 1 true, .own 3 0 1 1 true])), (1, some (3, .ds [iD (w1 v)])), (2, some (3, .ds [iD (w2 v)])), (3, some (3, .ds [iD 3]))] 4 ⟨by omega, by omega⟩ ?_
 refine AWr.s ?_
 refine zr [.b true] [1, 15, 16, 17, 18] [0, 1, 2, 3] (((2 : Int) < 3)) [(1, sV .i64 l n), (15, oV 0 0 3 1), (16, iV 3), (17, iV 2), (18, bV true)] [(0, some (22, .cs [.own 1 0 1 1 true, .own 2 0 1 1 true, .own 3 0 1 1 true])), (1, some (3, .ds [iD (w1 v)])), (2, some (3, .ds [iD (w2 v)])), (3, some (3, .ds [iD 3]))] 4 zo ?_
 refine AW.seq ?_
 refine zts ?_
 refine AW.seq ?_
 refine AW.block ?_
 refine zr [.n2 2 2, .no, .no] [1, 7, 15, 16, 17] [0, 1, 2, 3] (((2 : Int) = 2) ∧ ((2 : Nat) < 3) ∧ ((0 : Nat) + 2 * 1 = 2)) [(1, sV .i64 l n), (7, oV 3 0 1 1), (15, oV 0 0 3 1), (16, iV 3), (17, iV 2)] [(0, some (22, .cs [.own 1 0 1 1 true, .own 2 0 1 1 true, .own 3 0 1 1 true])), (1, some (3, .ds [iD (w1 v)])), (2, some (3, .ds [iD (w2 v)])), (3, some (3, .ds [iD 3]))] 4 ⟨rfl, zo, zo⟩ ?_
 refine zr [.no, .no, .call [] (oV 0 0 1 1) [(0, some (3, .ds [iD 3]))] 1 [none] none, .no, .no, .no, .b true] [1, 7, 15, 16, 17, 27] [0, 1, 2, 3] (([iD 3].length = 1 * 1) ∧ (noSlPV (oV 0 0 1 1) = true) ∧ ([iD 3].all noSlD = true) ∧ (_) ∧ (((1 : Int) = 1))) [(1, sV .i64 l n), (7, oV 3 0 1 1), (15, oV 0 0 3 1), (16, iV 3), (17, iV 2), (27, bV true)] [(0, some (22, .cs [.own 1 0 1 1 true, .own 2 0 1 1 true, .own 3 0 1 1 true])), (1, some (3, .ds [iD (w1 v)])), (2, some (3, .ds [iD (w2 v)])), (3, some (3, .ds [iD 3]))] 5 ⟨zl07d2, rfl, zl07d4, (D_Com1h 3 l n zo zo zl07d1), zo⟩ ?_
 refine zt ?_
 refine zr [.no, .no, .no] [4, 5] [3] True [(4, oV 3 0 1 1), (5, iV 23170)] [(3, some (3, .ds [iD 3]))] 5 trivial ?_
 refine AW.ret ?_
 exact EndP.of (.inr rfl) [(0, 3)] (P := ((0 : Nat) = 0) ∧ ((1 : Nat) = 1) ∧ ((23170 : Int) = 23170) ∧ (([iD 3] : List D) = [iD 3])) zk ⟨rfl, rfl, rfl, rfl⟩
theorem D_goals5d (l : List Int) (n : Nat) (v : Int) (hn : List.length l = n) (hm : n ≤ 1000000) (hv : idxK l v n < 0) (h : 5 ≤ v ∧ v ≤ 8) (h1 : idxK l (w1 v) n < 0) (h2 : idxK l (w2 v) n < 0) (h3 : idxK l 3 n < 0) : Fun 54 [iE v, .c (.d (D.sl (dI .i64 l) n))] (toG []) 0 (.tup [.c (.d (D.lit (.slice none 0 0))), iE 0]) (toG []) 0 := by
 refine Fun.mk (n := 30) Tryz.func54 rfl rfl (Nat.le_of_ble_eq_true rfl) ?_
 intro cx hcx
 refine zr [.no, .no] [0, 1] [] True [(0, iV v), (1, sV .i64 l n)] [] 0 trivial ?_
 refine AW.seq ?_
 refine zr [.no, .no, .call [] (iV (idxK l v n)) [] 0 [] none, .b false] [0, 1, 11] [] ((_) ∧ (¬ ((0 : Int) ≤ (idxK l v n)))) [(0, iV v), (1, sV .i64 l n), (11, bV false)] [] 0 ⟨(C_Index l n v zo zo), zo⟩ ?_
 refine zfs ?_
 refine AW.seq ?_
 refine zr [.no, .call [] (oV 0 0 3 1) [(0, some (22, .cs [.own 1 0 1 1 true, .own 2 0 1 1 true, .own 3 0 1 1 true])), (1, some (3, .ds [iD (w1 v)])), (2, some (3, .ds [iD (w2 v)])), (3, some (3, .ds [iD 3]))] 4 [] none, .no, .no] [1, 15, 16, 17] [0, 1, 2, 3] _ [(1, sV .i64 l n), (15, oV 0 0 3 1), (16, iV 3), (17, iV 0)] [(0, some (22, .cs [.own 1 0 1 1 true, .own 2 0 1 1 true, .own 3 0 1 1 true])), (1, some (3, .ds [iD (w1 v)])), (2, some (3, .ds [iD (w2 v)])), (3, some (3, .ds [iD 3]))] 4 (D_else5 v zo) ?_
 refine AW.block ?_
 refine AW.rounds 4 ?_
 refine AWr.s ?_
 refine zr [.b true] [1, 15, 16, 17, 18] [0, 1, 2, 3] (((0 : Int) < 3)) [(1, sV .i64 l n), (15, oV 0 0 3 1), (16, iV 3), (17, iV 0), (18, bV true)] [(0, some (22, .cs [.own 1 0 1 1 true, .own 2 0 1 1 true, .own 3 0 1 1 true])), (1, some (3, .ds [iD (w1 v)])), (2, some (3, .ds [iD (w2 v)])), (3, some (3, .ds [iD 3]))] 4 zo ?_
 refine AW.seq ?_
 refine zts ?_
 refine AW.seq ?_
 refine AW.block ?_
 refine zr [.n2 0 0, .no, .no] [1, 7, 15, 16, 17] [0, 1, 2, 3] (((0 : Int) = 0) ∧ ((0 : Nat) < 3) ∧ ((0 : Nat) + 0 * 1 = 0)) [(1, sV .i64 l n), (7, oV 1 0 1 1), (15, oV 0 0 3 1), (16, iV 3), (17, iV 0)] [(0, some (22, .cs [.own 1 0 1 1 true, .own 2 0 1 1 true, .own 3 0 1 1 true])), (1, some (3, .ds [iD (w1 v)])), (2, some (3, .ds [iD (w2 v)])), (3, some (3, .ds [iD 3]))] 4 ⟨rfl, zo, zo⟩ ?_
 refine zr [.no, .no, .call [] (nV) [] 0 [none] none, .no, .no, .no, .b false] [1, 7, 15, 16, 17, 27] [0, 1, 2, 3] (([iD (w1 v)].length = 1 * 1) ∧ (noSlPV (nV) = true) ∧ (_) ∧ (¬ ((0 : Int) = 1))) [(1, sV .i64 l n), (7, oV 1 0 1 1), (15, oV 0 0 3 1), (16, iV 3), (17, iV 0), (27, bV false)] [(0, some (22, .cs [.own 1 0 1 1 true, .own 2 0 1 1 true, .own 3 0 1 1 true])), (1, some (3, .ds [iD (w1 v)])), (2, some (3, .ds [iD (w2 v)])), (3, some (3, .ds [iD 3]))] 4 ⟨zl07d2, rfl, (D_Com1m (w1 v) l n zo zo zl07d1), zo⟩ ?_
 refine zfs ?_
 refine zg [.w, .no] [1, 15, 16, 17] [0, 1, 2, 3] ((-9223372036854775808) ≤ (1 : Int) ∧ (1 : Int) ≤ 9223372036854775807) [(1, sV .i64 l n), (15, oV 0 0 3 1), (16, iV 3), (17, iV 1)] [(0, some (22, .cs [.own 1 0 1 1 true, .own 2 0 1 1 true, .own 3 0 1 1 true])), (1, some (3, .ds [iD (w1 v)])), (2, some (3, .ds [iD (w2 v)])), (3, some (3, .ds [iD 3]))] 4 ⟨by omega, by omega⟩ ?_
 refine AWr.s ?_
 refine zr [.b true] [1, 15, 16, 17, 18] [0, 1, 2, 3] (((1 : Int) < 3)) [(1, sV .i64 l n), (15, oV 0 0 3 1), (16, iV 3), (17, iV 1), (18, bV true)] [(0, some (22, .cs [.own 1 0 1 1 true, .own 2 0 1 1 true, .own 3 0 1 1 true])), (1, some (3, .ds [iD (w1 v)])), (2, some (3, .ds [iD (w2 v)])), (3, some (3, .ds [iD 3]))] 4 zo ?_
 refine AW.seq ?_
 refine zts ?_
 refine AW.seq ?_
 refine AW.block ?_
 refine zr [.n2 1 1, .no, .no] [1, 7, 15, 16, 17] [0, 1, 2, 3] (((1 : Int) = 1) ∧ ((1 : Nat) < 3) ∧ ((0 : Nat) + 1 * 1 = 1)) [(1, sV .i64 l n), (7, oV 2 0 1 1), (15, oV 0 0 3 1), (16, iV 3), (17, iV 1)] [(0, some (22, .cs [.own 1 0 1 1 true, .own 2 0 1 1 true, .own 3 0 1 1 true])), (1, some (3, .ds [iD (w1 v)])), (2, some (3, .ds [iD (w2 v)])), (3, some (3, .ds [iD 3]))] 4 ⟨rfl, zo, zo⟩ ?_
 refine zr [.no, .no, .call [] (nV) [] 0 [none] none, .no, .no, .no, .b false] [1, 7, 15, 16, 17, 27] [0, 1, 2, 3] (([iD (w2 v)].length = 1 * 1) ∧ (noSlPV (nV) = true) ∧ (_) ∧ (¬ ((0 : Int) = 1))) [(1, sV .i64 l n), (7, oV 2 0 1 1), (15, oV 0 0 3 1), (16, iV 3), (17, iV 1), (27, bV false)] [(0, some (22, .cs [.own 1 0 1 1 true, .own 2 0 1 1 true, .own 3 0 1 1 true])), (1, some (3, .ds [iD (w1 v)])), (2, some (3, .ds [iD (w2 v)])), (3, some (3, .ds [iD 3]))] 4 ⟨zl07d2, rfl, (D_Com1m (w2 v) l n zo zo zl07d1), zo⟩ ?_
 refine zfs ?_
 refine zg [.w, .no] [1, 15, 16, 17] [0, 1, 2, 3] ((-9223372036854775808) ≤ (2 : Int) ∧ (2 : Int) ≤ 9223372036854775807) [(1, sV .i64 l n), (15, oV 0 0 3 1), (16, iV 3), (17, iV 2)] [(0, some (22, .cs [.own 1 0 1 1 true, .own 2 0 1 1 true, .own 3 0 1 1 true])), (1, some (3, .ds [iD (w1 v)])), (2, some (3, .ds [iD (w2 v)])), (3, some (3, .ds [iD 3]))] 4 ⟨by omega, by omega⟩ ?_
 refine AWr.s ?_
 refine zr [.b true] [1, 15, 16, 17, 18] [0, 1, 2, 3] (((2 : Int) < 3)) [(1, sV .i64 l n), (15, oV 0 0 3 1), (16, iV 3), (17, iV 2), (18, bV true)] [(0, some (22, .cs [.own 1 0 1 1 true, .own 2 0 1 1 true, .own 3 0 1 1 true])), (1, some (3, .ds [iD (w1 v)])), (2, some (3, .ds [iD (w2 v)])), (3, some (3, .ds [iD 3]))] 4 zo ?_
 refine AW.seq ?_
 refine zts ?_
 refine AW.seq ?_
 refine AW.block ?_
 refine zr [.n2 2 2, .no, .no] [1, 7, 15, 16, 17] [0, 1, 2, 3] (((2 : Int) = 2) ∧ ((2 : Nat) < 3) ∧ ((0 : Nat) + 2 * 1 = 2)) [(1, sV .i64 l n), (7, oV 3 0 1 1), (15, oV 0 0 3 1), (16, iV 3), (17, iV 2)] [(0, some (22, .cs [.own 1 0 1 1 true, .own 2 0 1 1 true, .own 3 0 1 1 true])), (1, some (3, .ds [iD (w1 v)])), (2, some (3, .ds [iD (w2 v)])), (3, some (3, .ds [iD 3]))] 4 ⟨rfl, zo, zo⟩ ?_
 refine zr [.no, .no, .call [] (nV) [] 0 [none] none, .no, .no, .no, .b false] [1, 7, 15, 16, 17, 27] [0, 1, 2, 3] (([iD 3].length = 1 * 1) ∧ (noSlPV (nV) = true) ∧ (_) ∧ (¬ ((0 : Int) = 1))) [(1, sV .i64 l n), (7, oV 3 0 1 1), (15, oV 0 0 3 1), (16, iV 3), (17, iV 2), (27, bV false)] [(0, some (22, .cs [.own 1 0 1 1 true, .own 2 0 1 1 true, .own 3 0 1 1 true])), (1, some (3, .ds [iD (w1 v)])), (2, some (3, .ds [iD (w2 v)])), (3, some (3, .ds [iD 3]))] 4 ⟨zl07d2, rfl, (D_Com1m 3 l n zo zo zl07d1), zo⟩ ?_
 refine zfs ?_
 refine zg [.w, .no] [1, 15, 16, 17] [0, 1, 2, 3] ((-9223372036854775808) ≤ (3 : Int) ∧ (3 : Int) ≤ 9223372036854775807) [(1, sV .i64 l n), (15, oV 0 0 3 1), (16, iV 3), (17, iV 3)] [(0, some (22, .cs [.own 1 0 1 1 true, .own 2 0 1 1 true, .own 3 0 1 1 true])), (1, some (3, .ds [iD (w1 v)])), (2, some (3, .ds [iD (w2 v)])), (3, some (3, .ds [iD 3]))] 4 ⟨by omega, by omega⟩ ?_
 refine AWr.s ?_
 refine zr [.b false] [1, 15, 16, 17, 18] [0, 1, 2, 3] (¬ ((3 : Int) < 3)) [(1, sV .i64 l n), (15, oV 0 0 3 1), (16, iV 3), (17, iV 3), (18, bV false)] [(0, some (22, .cs [.own 1 0 1 1 true, .own 2 0 1 1 true, .own 3 0 1 1 true])), (1, some (3, .ds [iD (w1 v)])), (2, some (3, .ds [iD (w2 v)])), (3, some (3, .ds [iD 3]))] 4 zo ?_
 refine AW.seq ?_
 refine zf ?_
 refine AW.exit ?_
 refine zr [.no, .no] [4, 5] [] True [(4, nV), (5, iV 0)] [] 4 trivial ?_
 refine AW.ret ?_
 exact EndP.of (.inr rfl) [] (P := ((.slice none 0 0 : Value) = .slice none 0 0) ∧ ((0 : Int) = 0)) zk ⟨rfl, rfl⟩
end Go.Proofs.YtigiolfloefjnaaGreatDoor
