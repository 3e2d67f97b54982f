/- Dice. No statement is proved here. -/
import Derived.Test.YtigiolfloefjnaaGreatDoorZL04
namespace Go.Proofs.YtigiolfloefjnaaGreatDoor
open Go.ChangeShapes Go.WideShapes Go.ChangeAt Go.RowKit
set_option linter.unusedVariables false
set_option linter.unusedSimpArgs false
set_option maxHeartbeats 4000000
set_option maxRecDepth 100000
def Byt (l : List Int) : Prop := ∀ j, j < List.length l → 0 ≤ List.getD l j 0 ∧ List.getD l j 0 ≤ 255
theorem Byt.at {l : List Int} (h : Byt l) (j : Nat) (hj : j < List.length l) : 0 ≤ List.getD l j 0 ∧ List.getD l j 0 ≤ 255 := h j hj
theorem Byt.drop {l : List Int} (h : Byt l) (n : Nat) : Byt (List.drop n l) := by
 intro j hj
 rw [List.length_drop] at hj
 rw [getD_drop]; exact h _ (by omega)
theorem Byt.take {l : List Int} (h : Byt l) (n : Nat) : Byt (List.take n l) := by
 intro j hj
 rw [List.length_take] at hj
 rw [getD_take (by omega)]; exact h _ (by omega)
theorem Byt.of {l : List Int} (h : ∀ x ∈ l, 0 ≤ x ∧ x ≤ 255) : Byt l := by
 intro j hj
 rw [List.getD_eq_getElem?_getD, List.getElem?_eq_getElem hj]
 exact h _ (List.getElem_mem hj)
def nextN (l : List Int) (n : Int) : Nat := if l.length = 0 ∨ n ≤ 1 then 0 else (List.getD l 0 0 % n).toNat
def nextL (l : List Int) (n : Int) : List Int := if l.length = 0 ∨ n ≤ 1 then l else List.drop 1 l
theorem nextV_yes {l : List Int} {n : Int} (h : l.length = 0 ∨ n ≤ 1) : ((nextN l n : Nat) : Int) = 0 := by unfold nextN; rw [if_pos h]; rfl
theorem nextL_yes {l : List Int} {n : Int} (h : l.length = 0 ∨ n ≤ 1) : nextL l n = l := if_pos h
theorem nextV_no {l : List Int} {n : Int} (hb : Byt l) (h : ¬ (l.length = 0 ∨ n ≤ 1)) : ((nextN l n : Nat) : Int) = List.getD l 0 0 % n := by
 unfold nextN; rw [if_neg h]; exact Int.toNat_of_nonneg (Int.emod_nonneg _ (by omega))
theorem nextL_no {l : List Int} {n : Int} (h : ¬ (l.length = 0 ∨ n ≤ 1)) : nextL l n = List.drop 1 l := if_neg h
theorem nextL_byt {l : List Int} (n : Int) (h : Byt l) : Byt (nextL l n) := by
 unfold nextL; split
 ·exact h
 ·exact h.drop 1
theorem nextL_len (l : List Int) (n : Int) : (nextL l n).length ≤ l.length := by
 unfold nextL; split
 ·exact Nat.le_refl _
 ·rw [List.length_drop]; omega
theorem nextV_in (l : List Int) (n : Int) (h : Byt l) : (((nextN l n : Nat) : Int) < n ∨ nextN l n = 0) ∧ nextN l n ≤ 255 := by
 by_cases hn : l.length = 0 ∨ n ≤ 1
 ·have := nextV_yes hn; omega
 ·have e0 := nextV_no h hn
  have h0 := h 0 (by omega)
  have e3 := Int.emod_lt_of_pos (List.getD l 0 0) (b := n) (by omega)
  have e1 := Int.mul_ediv_add_emod (List.getD l 0 0) n
  have e2 : 0 ≤ n * (List.getD l 0 0 / n) := Int.mul_nonneg (by omega) (Int.ediv_nonneg h0.1 (by omega))
  omega
theorem G_New (l : List Int) (n : Nat) (hn : List.length l = n) (hb : n ≤ 9223372036854775807) : Fun 7 [.c (.d (D.sl (dI .u8 l) n))] (toG []) 0 (rV 0 0) (toG [(0, some (61, .ds [D.sl (dI .u8 (List.take (min n 300) l)) (List.length (List.take (min n 300) l))]))]) 1 := by
 refine Fun.mk (n := 10) Tryz.func7 rfl rfl (Nat.le_of_ble_eq_true rfl) ?_
 intro cx hcx
 refine zr [.no] [0] [] True [(0, .e (.c (.d (db l n))))] [] 0 trivial ?_
 refine zr [.no, .no, .no, .no, .sls 0 (min n 300) (min n 300) (dI .u8 (List.take (min n 300) l)), .no, .no, .no] [2] [0] (((0 : Nat) = 0) ∧ (((min ((n : Nat) : Int) 300) : Int) = (((min n 300) : Nat) : Int)) ∧ ((0 : Nat) ≤ (min n 300)) ∧ ((min n 300) ≤ n) ∧ ((min n 300) - 0 = (min n 300)) ∧ (List.take ((min n 300) * 1) (List.drop (0 * 1) (dI .u8 l)) = (dI .u8 (List.take (min n 300) l)))) [(2, rV 0 0)] [(0, some (61, .ds [db (List.take (min n 300) l) (min n 300)]))] 1 ⟨rfl, (by first | rfl | omega), zo, zo, zo, (by first | rfl | with_reducible assumption | exact dI_app _ _ _ | exact dI_rep _ _ _ | (simp only [dI_take, dI_drop, dI_app, Nat.mul_one, Nat.zero_mul, List.drop_zero, List.nil_append, List.append_nil]; done) | (simp only [dI_take, dI_drop, dI_app, Nat.mul_one, Nat.zero_mul, List.drop_zero, List.nil_append, List.append_nil]; rfl) | (rw [List.take_of_length_le (by simp only [dI_len, List.length_drop, List.length_replicate, Nat.mul_one]; omega)]; first | rfl | (simp only [dI_drop, Nat.mul_one, Nat.zero_mul, List.drop_zero]; done) | (simp only [dI_drop, Nat.mul_one, Nat.zero_mul, List.drop_zero]; rfl)))⟩ ?_
 refine AW.ret ?_
 exact EndP.of (.inr rfl) [] (P := ((0 : Nat) = 0) ∧ (([db (List.take (min n 300) l) (List.length (List.take (min n 300) l))] : List D) = [db (List.take (min n 300) l) (min n 300)])) zk ⟨rfl, (by have e9 : (List.take (min n 300) l).length = min n 300 := (by rw [List.length_take]; omega); rw [e9])⟩
theorem G_Next (l : List Int) (n : Int) (hb : Byt l) : Fun 22 [.c (.ptr 0 0), iE n] (toG [(0, some (61, .ds [D.sl (dI .u8 l) (List.length l)]))]) 1 (iV (((nextN l n) : Nat) : Int)) (toG [(0, some (61, .ds [D.sl (dI .u8 (nextL l n)) (List.length (nextL l n))]))]) 1 := by
 refine Fun.mk (n := 34) Tryz.func22 rfl rfl (Nat.le_of_ble_eq_true rfl) ?_
 intro cx hcx
 refine zr [.no] [0, 1] [0] True [(0, rV 0 0), (1, iV n)] [(0, some (61, .ds [db l (List.length l)]))] 1 trivial ?_
 refine AW.seq ?_
 by_cases hx1 : ((((List.length l) : Nat) : Int) = 0)
 ·refine zr [.no, .no, .no, .no, .no, .b true, .no, .no] [0, 1, 15] [0] (((((List.length l) : Nat) : Int) = 0)) [(0, rV 0 0), (1, iV n), (15, .e (.c (.d (D.lit (.bool true)))))] [(0, some (61, .ds [db l (List.length l)]))] 1 zo ?_
  refine zt ?_
  refine zr [.no] [4] [0] True [(4, iV 0)] [(0, some (61, .ds [db l (List.length l)]))] 1 trivial ?_
  refine AW.ret ?_
  exact EndP.of (.inr rfl) [] (P := (((((nextN l n) : Nat) : Int) : Int) = 0) ∧ (([db (nextL l n) (List.length (nextL l n))] : List D) = [db l (List.length l)])) zk ⟨(by first | rfl | exact nextV_yes zo | exact nextV_no hb zo | (rw [nextL_yes (by omega)]) | (rw [nextL_no (by omega), List.length_drop])), (by first | rw [nextL_yes (by omega)] | rw [nextL_no (by omega), List.length_drop])⟩
 ·by_cases hx2 : (n ≤ 1)
  ·refine zr [.no, .no, .no, .no, .no, .b false, .no, .no, .b true, .no] [0, 1, 15] [0] ((¬ ((((List.length l) : Nat) : Int) = 0)) ∧ ((n ≤ 1))) [(0, rV 0 0), (1, iV n), (15, .e (.c (.d (D.lit (.bool true)))))] [(0, some (61, .ds [db l (List.length l)]))] 1 ⟨zo, zo⟩ ?_
   refine zt ?_
   refine zr [.no] [4] [0] True [(4, iV 0)] [(0, some (61, .ds [db l (List.length l)]))] 1 trivial ?_
   refine AW.ret ?_
   exact EndP.of (.inr rfl) [] (P := (((((nextN l n) : Nat) : Int) : Int) = 0) ∧ (([db (nextL l n) (List.length (nextL l n))] : List D) = [db l (List.length l)])) zk ⟨(by first | rfl | exact nextV_yes zo | exact nextV_no hb zo | (rw [nextL_yes (by omega)]) | (rw [nextL_no (by omega), List.length_drop])), (by first | rw [nextL_yes (by omega)] | rw [nextL_no (by omega), List.length_drop])⟩
  ·refine zr [.no, .no, .no, .no, .no, .b false, .no, .no, .b false, .no] [0, 1, 15] [0] ((¬ ((((List.length l) : Nat) : Int) = 0)) ∧ (¬ (n ≤ 1))) [(0, rV 0 0), (1, iV n), (15, .e (.c (.d (D.lit (.bool false)))))] [(0, some (61, .ds [db l (List.length l)]))] 1 ⟨zo, zo⟩ ?_
   refine zfs ?_
   have hx3 : 0 ≤ (List.getD l 0 0) ∧ (List.getD l 0 0) ≤ 255 := hb.at 0 zo
   refine zr [.no, .no, .no, .no, .n 0, .d (D.lit (.int .u8 (List.getD l 0 0))), .w, .no] [0, 1, 5] [0] (((0 : Int) = 0) ∧ ((0 : Nat) < (List.length l)) ∧ ((List.drop 0 (dI .u8 l))[0]? = some (D.lit (.int .u8 (List.getD l 0 0)))) ∧ ((-9223372036854775808) ≤ (List.getD l 0 0) ∧ (List.getD l 0 0) ≤ 9223372036854775807)) [(0, rV 0 0), (1, iV n), (5, iV (List.getD l 0 0))] [(0, some (61, .ds [db l (List.length l)]))] 1 ⟨rfl, zo, (dI_at _ _ _ (by first | omega | (rw [dI_len]; omega) | (simp [dI_len] <;> omega) | rfl)), ⟨by omega, by omega⟩⟩ ?_
   refine zr [.no, .no, .no, .no, .no, .sls 1 (List.length l) ((List.length l) - 1) (dI .u8 (List.drop 1 l)), .no, .no, .no] [1, 5] [0] (((1 : Int) = 1) ∧ ((List.length l) = (List.length l)) ∧ ((1 : Nat) ≤ (List.length l)) ∧ ((List.length l) ≤ (List.length l)) ∧ ((List.length l) - 1 = ((List.length l) - 1)) ∧ (List.take (((List.length l) - 1) * 1) (List.drop (1 * 1) (dI .u8 l)) = (dI .u8 (List.drop 1 l)))) [(1, iV n), (5, iV (List.getD l 0 0))] [(0, some (61, .ds [db (List.drop 1 l) ((List.length l) - 1)]))] 1 ⟨rfl, rfl, zo, zo, zo, (by first | rfl | with_reducible assumption | exact dI_app _ _ _ | exact dI_rep _ _ _ | (simp only [dI_take, dI_drop, dI_app, Nat.mul_one, Nat.zero_mul, List.drop_zero, List.nil_append, List.append_nil]; done) | (simp only [dI_take, dI_drop, dI_app, Nat.mul_one, Nat.zero_mul, List.drop_zero, List.nil_append, List.append_nil]; rfl) | (rw [List.take_of_length_le (by simp only [dI_len, List.length_drop, List.length_replicate, Nat.mul_one]; omega)]; first | rfl | (simp only [dI_drop, Nat.mul_one, Nat.zero_mul, List.drop_zero]; done) | (simp only [dI_drop, Nat.mul_one, Nat.zero_mul, List.drop_zero]; rfl)))⟩ ?_
   refine zr [.no, .no, .ps, .no] [4] [0] (((0 : Int) ≤ ((List.getD l 0 0) : Int)) ∧ ((0 : Int) < (n : Int))) [(4, iV ((List.getD l 0 0) % n))] [(0, some (61, .ds [db (List.drop 1 l) ((List.length l) - 1)]))] 1 ⟨zo, zo⟩ ?_
   refine AW.ret ?_
   exact EndP.of (.inr rfl) [] (P := (((((nextN l n) : Nat) : Int) : Int) = ((List.getD l 0 0) % n)) ∧ (([db (nextL l n) (List.length (nextL l n))] : List D) = [db (List.drop 1 l) ((List.length l) - 1)])) zk ⟨(by first | rfl | exact nextV_yes zo | exact nextV_no hb zo | (rw [nextL_yes (by omega)]) | (rw [nextL_no (by omega), List.length_drop])), (by first | rw [nextL_yes (by omega)] | rw [nextL_no (by omega), List.length_drop])⟩
end Go.Proofs.YtigiolfloefjnaaGreatDoor
