/- Changes of order. No statement is proved here. -/
import Derived.Test.YtigiolfloefjnaaGreatDoorZL07S
namespace Go.Proofs.YtigiolfloefjnaaGreatDoor
open Go.ChangeShapes Go.WideShapes Go.ChangeAt Go.RowKit
set_option linter.unusedVariables false
set_option linter.unusedSimpArgs false
set_option maxHeartbeats 4000000
set_option maxRecDepth 100000
def ixN (l : List Int) (v : Int) (n : Nat) : Nat := (idxK l v n).toNat
def ChV (n : Nat) (l : List Int) : Prop := ∀ j, j < n → 1 ≤ List.getD l j 0 ∧ List.getD l j 0 ≤ 8 ∧ idxK l (List.getD l j 0) n = (j : Int)
theorem idxK_get {l : List Int} {v : Int} : ∀ n, 0 ≤ idxK l v n → List.getD l (ixN l v n) 0 = v ∧ ixN l v n < n ∧ ((ixN l v n : Nat) : Int) = idxK l v n
 | 0, h => by exact absurd h (by show ¬ (0 : Int) ≤ -1; omega)
 | k + 1, h => by
  unfold ixN
  have e : idxK l v (k + 1) = if 0 ≤ idxK l v k then idxK l v k else if List.getD l k 0 = v then (k : Int) else -1 := rfl
  by_cases h1 : 0 ≤ idxK l v k
  ·rw [if_pos h1] at e
   have := idxK_get k h1
   unfold ixN at this
   rw [e]; omega
  ·rw [if_neg h1] at e
   by_cases h2 : List.getD l k 0 = v
   ·rw [if_pos h2] at e
    rw [e]
    refine ⟨?_, by omega, by omega⟩
    rw [Int.toNat_natCast]; exact h2
   ·rw [if_neg h2] at e; omega
theorem apA_BV {l w : List Int} {i o f : Nat} (h1 : 1 ≤ o) (h8 : o ≤ 8) (hf : f ≤ 65536) : BV o f (apA l w i o (f * o)) := ⟨h1, h8, apA_len _ _ _ _ _, hf, fun j hj => by
 rw [apA_len] at hj
 unfold apA
 rw [map_getD hj]
 exact smp_of (satI_smp _)⟩
def chAll (n : Nat) (l : List Int) : Bool := (List.range n).all fun j => decide (1 ≤ List.getD l j 0 ∧ List.getD l j 0 ≤ 8 ∧ idxK l (List.getD l j 0) n = (j : Int))
theorem ChV.of {n : Nat} {l : List Int} (h : chAll n l = true) : ChV n l := fun j hj => of_decide_eq_true (List.all_eq_true.1 h j (List.mem_range.2 hj))
def mapL (l : List Int) : List Int :=
 if nextN l 7 = 0 then [3] else if nextN l 7 = 1 then [1, 2] else if nextN l 7 = 2 then [1, 2, 3, 4, 5, 6] else if nextN l 7 = 3 then [2, 1] else if nextN l 7 = 4 then [1, 2, 7, 8] else if nextN l 7 = 5 then [4] else [1, 3]
theorem mapL_ok (l : List Int) : (1 ≤ List.length (mapL l) ∧ List.length (mapL l) ≤ 6) ∧ ChV (List.length (mapL l)) (mapL l) := by
 unfold mapL
 (repeat' split) <;> exact ⟨by decide, ChV.of (by decide)⟩
theorem ChV.inj {n : Nat} {l : List Int} (h : ChV n l) {i j : Nat} (hi : i < n) (hj : j < n) (e : List.getD l i 0 = List.getD l j 0) : i = j := by
 have h1 := (h i hi).2.2
 have h2 := (h j hj).2.2
 rw [e] at h1; omega
theorem G_Maps   : Fun 52 [] (toG []) 0 (oV 0 0 7 1) (toG [(0, some (22, .cs [.own 1 0 1 1 true, .own 2 0 2 1 true, .own 3 0 6 1 true, .own 4 0 2 1 true, .own 5 0 4 1 true, .own 6 0 1 1 true, .own 7 0 2 1 true])), (1, some (3, .ds [iD 3])), (2, some (3, .ds [iD 1, iD 2])), (3, some (3, .ds [iD 1, iD 2, iD 3, iD 4, iD 5, iD 6])), (4, some (3, .ds [iD 2, iD 1])), (5, some (3, .ds [iD 1, iD 2, iD 7, iD 8])), (6, some (3, .ds [iD 4])), (7, some (3, .ds [iD 1, iD 3]))]) 8 := by
 refine Fun.mk (n := 9) Tryz.func52 rfl rfl (Nat.le_of_ble_eq_true rfl) ?_
 intro cx hcx
 refine zr [.no] [] [] True [] [] 0 trivial ?_
 refine zr [.no, .no, .no, .no, .no, .no, .no, .no, .no] [0] [0, 1, 2, 3, 4, 5, 6, 7] True [(0, oV 7 0 7 1)] [(0, some (3, .ds [iD 3])), (1, some (3, .ds [iD 1, iD 2])), (2, some (3, .ds [iD 1, iD 2, iD 3, iD 4, iD 5, iD 6])), (3, some (3, .ds [iD 2, iD 1])), (4, some (3, .ds [iD 1, iD 2, iD 7, iD 8])), (5, some (3, .ds [iD 4])), (6, some (3, .ds [iD 1, iD 3])), (7, some (22, .cs [.own 0 0 1 1 true, .own 1 0 2 1 true, .own 2 0 6 1 true, .own 3 0 2 1 true, .own 4 0 4 1 true, .own 5 0 1 1 true, .own 6 0 2 1 true]))] 8 trivial ?_
 refine AW.ret ?_
 exact EndP.of (.inr rfl) [(0, 7), (1, 0), (2, 1), (3, 2), (4, 3), (5, 4), (6, 5), (7, 6)] (P := ((0 : Nat) = 0) ∧ ((7 : Nat) = 7) ∧ ((0 : Nat) = 0) ∧ ((1 : Nat) = 1) ∧ ((0 : Nat) = 0) ∧ ((2 : Nat) = 2) ∧ ((0 : Nat) = 0) ∧ ((6 : Nat) = 6) ∧ ((0 : Nat) = 0) ∧ ((2 : Nat) = 2) ∧ ((0 : Nat) = 0) ∧ ((4 : Nat) = 4) ∧ ((0 : Nat) = 0) ∧ ((1 : Nat) = 1) ∧ ((0 : Nat) = 0) ∧ ((2 : Nat) = 2) ∧ (([iD 3] : List D) = [iD 3]) ∧ (([iD 1, iD 2] : List D) = [iD 1, iD 2]) ∧ (([iD 1, iD 2, iD 3, iD 4, iD 5, iD 6] : List D) = [iD 1, iD 2, iD 3, iD 4, iD 5, iD 6]) ∧ (([iD 2, iD 1] : List D) = [iD 2, iD 1]) ∧ (([iD 1, iD 2, iD 7, iD 8] : List D) = [iD 1, iD 2, iD 7, iD 8]) ∧ (([iD 4] : List D) = [iD 4]) ∧ (([iD 1, iD 3] : List D) = [iD 1, iD 3])) zk ⟨rfl, rfl, rfl, rfl, rfl, rfl, rfl, rfl, rfl, rfl, rfl, rfl, rfl, rfl, rfl, rfl, rfl, rfl, rfl, rfl, rfl, rfl, rfl⟩
theorem zl07p0 {p : Prop} (h : p := by first | omega | with_reducible assumption | (simp <;> omega) | rfl | assumption) : p := h
theorem zl07p1 {p : Prop} (h : p := by unfold mapL; (repeat' split) <;> first | rfl | omega) : p := h
theorem G_Map (l : List Int) (hb : Byt l) : Fun 23 [.c (.ptr 0 0)] (toG [(0, some (61, .ds [D.sl (dI .u8 l) (List.length l)]))]) 1 (oV 1 0 (List.length (mapL l)) 1) (toG [(0, some (61, .ds [D.sl (dI .u8 (nextL l 7)) (List.length (nextL l 7))])), (1, some (3, .ds (dI .i64 (mapL l))))]) 2 := by
 have hv7 := nextV_in l 7 hb
 refine Fun.mk (n := 8) Tryz.func23 rfl rfl (Nat.le_of_ble_eq_true rfl) ?_
 intro cx hcx
 refine zr [.no] [0] [0] True [(0, rV 0 0)] [(0, some (61, .ds [db l (List.length l)]))] 1 trivial ?_
 by_cases hx3 : ((((nextN l 7) : Nat) : Int) = 0)
 ·have hx4 : ((((((nextN l 7) : Nat) : Int) < 7) ∨ ((nextN l 7) = 0)) ∧ ((nextN l 7) ≤ 255)) := nextV_in l (7 : Int) ‹_›
  have hx5 : (Byt (nextL l 7)) := nextL_byt (7 : Int) ‹_›
  refine zr [.call [] (oV 0 0 7 1) [(0, some (22, .cs [.own 1 0 1 1 true, .own 2 0 2 1 true, .own 3 0 6 1 true, .own 4 0 2 1 true, .own 5 0 4 1 true, .own 6 0 1 1 true, .own 7 0 2 1 true])), (1, some (3, .ds [iD 3])), (2, some (3, .ds [iD 1, iD 2])), (3, some (3, .ds [iD 1, iD 2, iD 3, iD 4, iD 5, iD 6])), (4, some (3, .ds [iD 2, iD 1])), (5, some (3, .ds [iD 1, iD 2, iD 7, iD 8])), (6, some (3, .ds [iD 4])), (7, some (3, .ds [iD 1, iD 3]))] 8 [] none, .no, .call [0] (uV (nextN l 7)) [(0, some (61, .ds [db (nextL l 7) (List.length (nextL l 7))]))] 1 [] none, .n2 0 0, .no, .no] [2] [0, 2] ((_) ∧ (_) ∧ (((((nextN l 7) : Nat) : Int) : Int) = 0) ∧ ((0 : Nat) < 7) ∧ ((0 : Nat) + 0 * 1 = 0)) [(2, oV 2 0 1 1)] [(0, some (61, .ds [db (nextL l 7) (List.length (nextL l 7))])), (2, some (3, .ds [iD 3]))] 9 ⟨(G_Maps), (G_Next l 7 zl07p0), (by first | rfl | omega), zo, zo⟩ ?_
  refine AW.ret ?_
  exact EndP.of (.inr rfl) [(1, 2)] (P := ((0 : Nat) = 0) ∧ (((List.length (mapL l)) : Nat) = 1) ∧ (([db (nextL l 7) (List.length (nextL l 7))] : List D) = [db (nextL l 7) (List.length (nextL l 7))]) ∧ (((dI .i64 (mapL l)) : List D) = [iD 3])) zk ⟨rfl, zl07p1, rfl, zl07p1⟩
 ·by_cases hx8 : ((((nextN l 7) : Nat) : Int) = 1)
  ·have hx9 : ((((((nextN l 7) : Nat) : Int) < 7) ∨ ((nextN l 7) = 0)) ∧ ((nextN l 7) ≤ 255)) := nextV_in l (7 : Int) ‹_›
   have hx10 : (Byt (nextL l 7)) := nextL_byt (7 : Int) ‹_›
   refine zr [.call [] (oV 0 0 7 1) [(0, some (22, .cs [.own 1 0 1 1 true, .own 2 0 2 1 true, .own 3 0 6 1 true, .own 4 0 2 1 true, .own 5 0 4 1 true, .own 6 0 1 1 true, .own 7 0 2 1 true])), (1, some (3, .ds [iD 3])), (2, some (3, .ds [iD 1, iD 2])), (3, some (3, .ds [iD 1, iD 2, iD 3, iD 4, iD 5, iD 6])), (4, some (3, .ds [iD 2, iD 1])), (5, some (3, .ds [iD 1, iD 2, iD 7, iD 8])), (6, some (3, .ds [iD 4])), (7, some (3, .ds [iD 1, iD 3]))] 8 [] none, .no, .call [0] (uV (nextN l 7)) [(0, some (61, .ds [db (nextL l 7) (List.length (nextL l 7))]))] 1 [] none, .n2 1 1, .no, .no] [2] [0, 3] ((_) ∧ (_) ∧ (((((nextN l 7) : Nat) : Int) : Int) = 1) ∧ ((1 : Nat) < 7) ∧ ((0 : Nat) + 1 * 1 = 1)) [(2, oV 3 0 2 1)] [(0, some (61, .ds [db (nextL l 7) (List.length (nextL l 7))])), (3, some (3, .ds [iD 1, iD 2]))] 9 ⟨(G_Maps), (G_Next l 7 zl07p0), (by first | rfl | omega), zo, zo⟩ ?_
   refine AW.ret ?_
   exact EndP.of (.inr rfl) [(1, 3)] (P := ((0 : Nat) = 0) ∧ (((List.length (mapL l)) : Nat) = 2) ∧ (([db (nextL l 7) (List.length (nextL l 7))] : List D) = [db (nextL l 7) (List.length (nextL l 7))]) ∧ (((dI .i64 (mapL l)) : List D) = [iD 1, iD 2])) zk ⟨rfl, zl07p1, rfl, zl07p1⟩
  ·by_cases hx13 : ((((nextN l 7) : Nat) : Int) = 2)
   ·have hx14 : ((((((nextN l 7) : Nat) : Int) < 7) ∨ ((nextN l 7) = 0)) ∧ ((nextN l 7) ≤ 255)) := nextV_in l (7 : Int) ‹_›
    have hx15 : (Byt (nextL l 7)) := nextL_byt (7 : Int) ‹_›
    refine zr [.call [] (oV 0 0 7 1) [(0, some (22, .cs [.own 1 0 1 1 true, .own 2 0 2 1 true, .own 3 0 6 1 true, .own 4 0 2 1 true, .own 5 0 4 1 true, .own 6 0 1 1 true, .own 7 0 2 1 true])), (1, some (3, .ds [iD 3])), (2, some (3, .ds [iD 1, iD 2])), (3, some (3, .ds [iD 1, iD 2, iD 3, iD 4, iD 5, iD 6])), (4, some (3, .ds [iD 2, iD 1])), (5, some (3, .ds [iD 1, iD 2, iD 7, iD 8])), (6, some (3, .ds [iD 4])), (7, some (3, .ds [iD 1, iD 3]))] 8 [] none, .no, .call [0] (uV (nextN l 7)) [(0, some (61, .ds [db (nextL l 7) (List.length (nextL l 7))]))] 1 [] none, .n2 2 2, .no, .no] [2] [0, 4] ((_) ∧ (_) ∧ (((((nextN l 7) : Nat) : Int) : Int) = 2) ∧ ((2 : Nat) < 7) ∧ ((0 : Nat) + 2 * 1 = 2)) [(2, oV 4 0 6 1)] [(0, some (61, .ds [db (nextL l 7) (List.length (nextL l 7))])), (4, some (3, .ds [iD 1, iD 2, iD 3, iD 4, iD 5, iD 6]))] 9 ⟨(G_Maps), (G_Next l 7 zl07p0), (by first | rfl | omega), zo, zo⟩ ?_
    refine AW.ret ?_
    exact EndP.of (.inr rfl) [(1, 4)] (P := ((0 : Nat) = 0) ∧ (((List.length (mapL l)) : Nat) = 6) ∧ (([db (nextL l 7) (List.length (nextL l 7))] : List D) = [db (nextL l 7) (List.length (nextL l 7))]) ∧ (((dI .i64 (mapL l)) : List D) = [iD 1, iD 2, iD 3, iD 4, iD 5, iD 6])) zk ⟨rfl, zl07p1, rfl, zl07p1⟩
   ·by_cases hx18 : ((((nextN l 7) : Nat) : Int) = 3)
    ·have hx19 : ((((((nextN l 7) : Nat) : Int) < 7) ∨ ((nextN l 7) = 0)) ∧ ((nextN l 7) ≤ 255)) := nextV_in l (7 : Int) ‹_›
     have hx20 : (Byt (nextL l 7)) := nextL_byt (7 : Int) ‹_›
     refine zr [.call [] (oV 0 0 7 1) [(0, some (22, .cs [.own 1 0 1 1 true, .own 2 0 2 1 true, .own 3 0 6 1 true, .own 4 0 2 1 true, .own 5 0 4 1 true, .own 6 0 1 1 true, .own 7 0 2 1 true])), (1, some (3, .ds [iD 3])), (2, some (3, .ds [iD 1, iD 2])), (3, some (3, .ds [iD 1, iD 2, iD 3, iD 4, iD 5, iD 6])), (4, some (3, .ds [iD 2, iD 1])), (5, some (3, .ds [iD 1, iD 2, iD 7, iD 8])), (6, some (3, .ds [iD 4])), (7, some (3, .ds [iD 1, iD 3]))] 8 [] none, .no, .call [0] (uV (nextN l 7)) [(0, some (61, .ds [db (nextL l 7) (List.length (nextL l 7))]))] 1 [] none, .n2 3 3, .no, .no] [2] [0, 5] ((_) ∧ (_) ∧ (((((nextN l 7) : Nat) : Int) : Int) = 3) ∧ ((3 : Nat) < 7) ∧ ((0 : Nat) + 3 * 1 = 3)) [(2, oV 5 0 2 1)] [(0, some (61, .ds [db (nextL l 7) (List.length (nextL l 7))])), (5, some (3, .ds [iD 2, iD 1]))] 9 ⟨(G_Maps), (G_Next l 7 zl07p0), (by first | rfl | omega), zo, zo⟩ ?_
     refine AW.ret ?_
     exact EndP.of (.inr rfl) [(1, 5)] (P := ((0 : Nat) = 0) ∧ (((List.length (mapL l)) : Nat) = 2) ∧ (([db (nextL l 7) (List.length (nextL l 7))] : List D) = [db (nextL l 7) (List.length (nextL l 7))]) ∧ (((dI .i64 (mapL l)) : List D) = [iD 2, iD 1])) zk ⟨rfl, zl07p1, rfl, zl07p1⟩
    ·by_cases hx23 : ((((nextN l 7) : Nat) : Int) = 4)
     ·have hx24 : ((((((nextN l 7) : Nat) : Int) < 7) ∨ ((nextN l 7) = 0)) ∧ ((nextN l 7) ≤ 255)) := nextV_in l (7 : Int) ‹_›
      have hx25 : (Byt (nextL l 7)) := nextL_byt (7 : Int) ‹_›
      refine zr [.call [] (oV 0 0 7 1) [(0, some (22, .cs [.own 1 0 1 1 true, .own 2 0 2 1 true, .own 3 0 6 1 true, .own 4 0 2 1 true, .own 5 0 4 1 true, .own 6 0 1 1 true, .own 7 0 2 1 true])), (1, some (3, .ds [iD 3])), (2, some (3, .ds [iD 1, iD 2])), (3, some (3, .ds [iD 1, iD 2, iD 3, iD 4, iD 5, iD 6])), (4, some (3, .ds [iD 2, iD 1])), (5, some (3, .ds [iD 1, iD 2, iD 7, iD 8])), (6, some (3, .ds [iD 4])), (7, some (3, .ds [iD 1, iD 3]))] 8 [] none, .no, .call [0] (uV (nextN l 7)) [(0, some (61, .ds [db (nextL l 7) (List.length (nextL l 7))]))] 1 [] none, .n2 4 4, .no, .no] [2] [0, 6] ((_) ∧ (_) ∧ (((((nextN l 7) : Nat) : Int) : Int) = 4) ∧ ((4 : Nat) < 7) ∧ ((0 : Nat) + 4 * 1 = 4)) [(2, oV 6 0 4 1)] [(0, some (61, .ds [db (nextL l 7) (List.length (nextL l 7))])), (6, some (3, .ds [iD 1, iD 2, iD 7, iD 8]))] 9 ⟨(G_Maps), (G_Next l 7 zl07p0), (by first | rfl | omega), zo, zo⟩ ?_
      refine AW.ret ?_
      exact EndP.of (.inr rfl) [(1, 6)] (P := ((0 : Nat) = 0) ∧ (((List.length (mapL l)) : Nat) = 4) ∧ (([db (nextL l 7) (List.length (nextL l 7))] : List D) = [db (nextL l 7) (List.length (nextL l 7))]) ∧ (((dI .i64 (mapL l)) : List D) = [iD 1, iD 2, iD 7, iD 8])) zk ⟨rfl, zl07p1, rfl, zl07p1⟩
     ·by_cases hx28 : ((((nextN l 7) : Nat) : Int) = 5)
      ·have hx29 : ((((((nextN l 7) : Nat) : Int) < 7) ∨ ((nextN l 7) = 0)) ∧ ((nextN l 7) ≤ 255)) := nextV_in l (7 : Int) ‹_›
       have hx30 : (Byt (nextL l 7)) := nextL_byt (7 : Int) ‹_›
       refine zr [.call [] (oV 0 0 7 1) [(0, some (22, .cs [.own 1 0 1 1 true, .own 2 0 2 1 true, .own 3 0 6 1 true, .own 4 0 2 1 true, .own 5 0 4 1 true, .own 6 0 1 1 true, .own 7 0 2 1 true])), (1, some (3, .ds [iD 3])), (2, some (3, .ds [iD 1, iD 2])), (3, some (3, .ds [iD 1, iD 2, iD 3, iD 4, iD 5, iD 6])), (4, some (3, .ds [iD 2, iD 1])), (5, some (3, .ds [iD 1, iD 2, iD 7, iD 8])), (6, some (3, .ds [iD 4])), (7, some (3, .ds [iD 1, iD 3]))] 8 [] none, .no, .call [0] (uV (nextN l 7)) [(0, some (61, .ds [db (nextL l 7) (List.length (nextL l 7))]))] 1 [] none, .n2 5 5, .no, .no] [2] [0, 7] ((_) ∧ (_) ∧ (((((nextN l 7) : Nat) : Int) : Int) = 5) ∧ ((5 : Nat) < 7) ∧ ((0 : Nat) + 5 * 1 = 5)) [(2, oV 7 0 1 1)] [(0, some (61, .ds [db (nextL l 7) (List.length (nextL l 7))])), (7, some (3, .ds [iD 4]))] 9 ⟨(G_Maps), (G_Next l 7 zl07p0), (by first | rfl | omega), zo, zo⟩ ?_
       refine AW.ret ?_
       exact EndP.of (.inr rfl) [(1, 7)] (P := ((0 : Nat) = 0) ∧ (((List.length (mapL l)) : Nat) = 1) ∧ (([db (nextL l 7) (List.length (nextL l 7))] : List D) = [db (nextL l 7) (List.length (nextL l 7))]) ∧ (((dI .i64 (mapL l)) : List D) = [iD 4])) zk ⟨rfl, zl07p1, rfl, zl07p1⟩
      ·have hx31 : ((((((nextN l 7) : Nat) : Int) < 7) ∨ ((nextN l 7) = 0)) ∧ ((nextN l 7) ≤ 255)) := nextV_in l (7 : Int) ‹_›
       have hx32 : (Byt (nextL l 7)) := nextL_byt (7 : Int) ‹_›
       refine zr [.call [] (oV 0 0 7 1) [(0, some (22, .cs [.own 1 0 1 1 true, .own 2 0 2 1 true, .own 3 0 6 1 true, .own 4 0 2 1 true, .own 5 0 4 1 true, .own 6 0 1 1 true, .own 7 0 2 1 true])), (1, some (3, .ds [iD 3])), (2, some (3, .ds [iD 1, iD 2])), (3, some (3, .ds [iD 1, iD 2, iD 3, iD 4, iD 5, iD 6])), (4, some (3, .ds [iD 2, iD 1])), (5, some (3, .ds [iD 1, iD 2, iD 7, iD 8])), (6, some (3, .ds [iD 4])), (7, some (3, .ds [iD 1, iD 3]))] 8 [] none, .no, .call [0] (uV (nextN l 7)) [(0, some (61, .ds [db (nextL l 7) (List.length (nextL l 7))]))] 1 [] none, .n2 6 6, .no, .no] [2] [0, 8] ((_) ∧ (_) ∧ (((((nextN l 7) : Nat) : Int) : Int) = 6) ∧ ((6 : Nat) < 7) ∧ ((0 : Nat) + 6 * 1 = 6)) [(2, oV 8 0 2 1)] [(0, some (61, .ds [db (nextL l 7) (List.length (nextL l 7))])), (8, some (3, .ds [iD 1, iD 3]))] 9 ⟨(G_Maps), (G_Next l 7 zl07p0), (by first | rfl | omega), zo, zo⟩ ?_
       refine AW.ret ?_
       exact EndP.of (.inr rfl) [(1, 8)] (P := ((0 : Nat) = 0) ∧ (((List.length (mapL l)) : Nat) = 2) ∧ (([db (nextL l 7) (List.length (nextL l 7))] : List D) = [db (nextL l 7) (List.length (nextL l 7))]) ∧ (((dI .i64 (mapL l)) : List D) = [iD 1, iD 3])) zk ⟨rfl, zl07p1, rfl, zl07p1⟩
theorem X_Map (l : List Int) (hb : Byt l) : ∃ (p : List Int) (n : Nat) (d : List Int), (List.length p = n) ∧ (1 ≤ n ∧ n ≤ 6) ∧ (ChV n p) ∧ (Byt d) ∧ (Fun 23 [.c (.ptr 0 0)] (toG [(0, some (61, .ds [D.sl (dI .u8 l) (List.length l)]))]) 1 (oV 1 0 n 1) (toG [(0, some (61, .ds [D.sl (dI .u8 d) (List.length d)])), (1, some (3, .ds (dI .i64 p)))]) 2) := ⟨(mapL l), (List.length (mapL l)), (nextL l 7), rfl, (mapL_ok l).1, (mapL_ok l).2, nextL_byt 7 hb, G_Map l hb⟩
theorem C_IndexAt (l : List Int) (n : Nat) (v : Int) (hn : List.length l = n) (hm : n ≤ 1000000) (hp : 0 ≤ idxK l v n) : Fun 56 [.c (.d (D.sl (dI .i64 l) n)), iE v] (toG []) 0 (iV (((ixN l v n) : Nat) : Int)) (toG []) 0 := by
 have hix : ((ixN l v n : Nat) : Int) = idxK l v n := (idxK_get n hp).2.2
 refine Fun.mk (n := 8) Tryz.func56 rfl rfl (Nat.le_of_ble_eq_true rfl) ?_
 intro cx hcx
 refine zr [.no] [0, 1] [] True [(0, sV .i64 l n), (1, iV v)] [] 0 trivial ?_
 refine zr [.no, .no, .call [] (iV (idxK l v n)) [] 0 [] none, .no] [4] [] _ [(4, iV (idxK l v n))] [] 0 (C_sIndex l n v zo zo) ?_
 refine AW.ret ?_
 exact EndP.of (.inr rfl) [] (P := (((((ixN l v n) : Nat) : Int) : Int) = (idxK l v n))) zk (by first | omega | rfl | assumption | (simp; done) | (simp; omega))
theorem C_rIndexAt (l : List Int) (n : Nat) (v : Int) (hn : List.length l = n) (hm : n ≤ 1000000) (hp : 0 ≤ idxK l v n) : Fun 63 [.c (.d (D.sl (dI .i64 l) n)), iE v] (toG []) 0 (iV (((ixN l v n) : Nat) : Int)) (toG []) 0 := by
 have hix : ((ixN l v n : Nat) : Int) = idxK l v n := (idxK_get n hp).2.2
 refine Fun.mk (n := 19) Tryz.func63 rfl rfl (Nat.le_of_ble_eq_true rfl) ?_
 intro cx hcx
 refine zr [.no] [0, 1] [] True [(0, sV .i64 l n), (1, iV v)] [] 0 trivial ?_
 refine AW.seq ?_
 refine zr [.no, .no, .no] [1, 7, 8, 9] [] True [(1, iV v), (7, sV .i64 l n), (8, uV n), (9, iV 0)] [] 0 trivial ?_
 refine AW.block ?_
 refine AW.loopE 0 hcx (fun (x : {x : Nat // match x with | k => (k ≤ n) ∧ (idxK l v k = -1)}) => match x with | ⟨k, _⟩ => (⟨[(1, iV v), (7, sV .i64 l n), (8, uV n), (9, uV k)], [], 0⟩ : ES)) (fun (x : {x : Nat // match x with | k => (k ≤ n) ∧ (idxK l v k = -1)}) => match x with | ⟨k, _⟩ => n - k) ⟨(0 : Nat), (show ((0 : Nat) ≤ n) ∧ (idxK l v (0 : Nat) = -1) from ⟨(by first | omega | assumption | simp), rfl⟩)⟩ [] (P := ((v : Int) = v) ∧ (((dI .i64 l) : List D) = (dI .i64 l)) ∧ ((n : Nat) = n) ∧ ((((n : Nat) : Int) : Int) = ((n : Nat) : Int)) ∧ ((0 : Int) = 0)) zk ⟨rfl, rfl, rfl, rfl, rfl⟩ ?_
 rintro ⟨k, hinv0⟩
 obtain ⟨hk, hi⟩ : (k ≤ n) ∧ (idxK l v k = -1) := hinv0
 refine AW.es (l := [(1, iV v), (7, sV .i64 l n), (8, uV n), (9, uV k)]) (g := []) (nx := 0) rfl rfl rfl ?_
 by_cases hx1 : (((k : Nat) : Int) < ((n : Nat) : Int))
 ·refine zr [.b true] [1, 7, 8, 9, 10] [] ((((k : Nat) : Int) < ((n : Nat) : Int))) [(1, iV v), (7, sV .i64 l n), (8, uV n), (9, uV k), (10, bV true)] [] 0 zo ?_
  refine AW.seq ?_
  refine zts ?_
  refine AW.seq ?_
  refine AW.block ?_
  refine zr [.no, .n k, .d (D.lit (.int .i64 (List.getD l k 0))), .no, .no] [1, 5, 6, 7, 8, 9] [] (((((k : Nat) : Int) : Int) = ((k : Nat) : Int)) ∧ (k < n) ∧ ((List.drop k (dI .i64 l))[0]? = some (D.lit (.int .i64 (List.getD l k 0))))) [(1, iV v), (5, uV k), (6, iV (List.getD l k 0)), (7, sV .i64 l n), (8, uV n), (9, uV k)] [] 0 ⟨rfl, zo, (dI_at _ _ _ (by first | omega | (rw [dI_len]; omega) | (simp [dI_len] <;> omega) | rfl))⟩ ?_
  by_cases hx2 : ((List.getD l k 0) = v)
  ·refine zr [.no, .no, .b true] [1, 5, 7, 8, 9, 16] [] (((List.getD l k 0) = v)) [(1, iV v), (5, uV k), (7, sV .i64 l n), (8, uV n), (9, uV k), (16, bV true)] [] 0 zo ?_
   refine zt ?_
   refine zr [.no, .no] [4] [] True [(4, uV k)] [] 0 trivial ?_
   refine AW.ret ?_
   exact EndP.of (.inr rfl) [] (P := (((((ixN l v n) : Nat) : Int) : Int) = ((k : Nat) : Int))) zk (by first | (rw [hix]; exact idxK_hit hi zo n zo) | (have he9 : idxK l v n = -1 := (by rw [show n = k by omega]; exact hi); omega))
  ·refine zr [.no, .no, .b false] [1, 5, 7, 8, 9, 16] [] (¬ ((List.getD l k 0) = v)) [(1, iV v), (5, uV k), (7, sV .i64 l n), (8, uV n), (9, uV k), (16, bV false)] [] 0 zo ?_
   refine zfs ?_
   refine zg [.w, .no] [1, 7, 8, 9] [] ((-9223372036854775808) ≤ (((k : Nat) : Int) + 1) ∧ (((k : Nat) : Int) + 1) ≤ 9223372036854775807) [(1, iV v), (7, sV .i64 l n), (8, uV n), (9, iV (↑k + 1))] [] 0 ⟨by omega, by omega⟩ ?_
   exact Rd.of ⟨((k + 1) : Nat), (show ((k + 1) ≤ n) ∧ (idxK l v (k + 1) = -1) from ⟨(by first | omega | assumption | simp), (idxK_miss hi zo)⟩)⟩ [] (P := ((v : Int) = v) ∧ (((dI .i64 l) : List D) = (dI .i64 l)) ∧ ((n : Nat) = n) ∧ ((((n : Nat) : Int) : Int) = ((n : Nat) : Int)) ∧ (((((k + 1) : Nat) : Int) : Int) = (((k : Nat) : Int) + 1))) zk ⟨rfl, rfl, rfl, rfl, (by first | rfl | omega | assumption | (simp; done) | (simp; omega))⟩ (show n - (k + 1) < n - k from (by first | omega | (show _ < _; simp; omega)))
 ·refine zr [.b false] [1, 7, 8, 9, 10] [] (¬ (((k : Nat) : Int) < ((n : Nat) : Int))) [(1, iV v), (7, sV .i64 l n), (8, uV n), (9, uV k), (10, bV false)] [] 0 zo ?_
  refine AW.seq ?_
  refine zf ?_
  refine AW.exit ?_
  refine zr [.no] [4] [] True [(4, iV (-1))] [] 0 trivial ?_
  refine AW.ret ?_
  exact EndP.of (.inr rfl) [] (P := (((((ixN l v n) : Nat) : Int) : Int) = (-1))) zk (by first | (rw [hix]; exact idxK_hit hi zo n zo) | (have he9 : idxK l v n = -1 := (by rw [show n = k by omega]; exact hi); omega))
end Go.Proofs.YtigiolfloefjnaaGreatDoor
