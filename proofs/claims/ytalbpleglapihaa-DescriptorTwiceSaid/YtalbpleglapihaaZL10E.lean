/- Merged texts. -/
import Derived.Test.YtalbpleglapihaaZLBy
import Derived.Test.YtalbpleglapihaaZL10D
namespace Go.Proofs.Ytalbpleglapihaa
open Go.ChangeShapes Go.WideShapes Go.ChangeAt Go.RowKit
set_option linter.unusedVariables false
set_option linter.unusedSimpArgs false
set_option maxHeartbeats 4000000
set_option maxRecDepth 100000
def kB (l : List Int) (n : Int) : Nat := if l.length = 0 ∨ n ≤ 1 then 0 else (List.getD l 0 0 % n).toNat
def kA (l : List Int) (n : Int) : List Int := if l.length = 0 ∨ n ≤ 1 then l else List.drop 1 l
theorem aQ {l : List Int} {n : Int} (h : l.length = 0 ∨ n ≤ 1) : ((kB l n : Nat) : Int) = 0 := by unfold kB; rw [if_pos h]; rfl
theorem vM {l : List Int} {n : Int} (h : l.length = 0 ∨ n ≤ 1) : kA l n = l := if_pos h
theorem dM {l : List Int} {n : Int} (hb : Byt l) (h : ¬ (l.length = 0 ∨ n ≤ 1)) : ((kB l n : Nat) : Int) = List.getD l 0 0 % n := by
  unfold kB; rw [if_neg h]; exact Int.toNat_of_nonneg (Int.emod_nonneg _ (by omega))
theorem aR {l : List Int} {n : Int} (h : ¬ (l.length = 0 ∨ n ≤ 1)) : kA l n = List.drop 1 l := if_neg h
theorem kF {l : List Int} (n : Int) (h : Byt l) : Byt (kA l n) := by
  unfold kA; split
  · exact h
  · exact h.drop 1
theorem kO (l : List Int) (n : Int) (h : Byt l) : (((kB l n : Nat) : Int) < n ∨ kB l n = 0) ∧ kB l n ≤ 255 := by
  by_cases hn : l.length = 0 ∨ n ≤ 1
  · have := aQ hn; omega
  · have e0 := dM h hn
    have h0 := Byt.at h 0 (by omega)
    have e3 := Int.emod_lt_of_pos (List.getD l 0 0) (b := n) (by omega)
    have e1 := Int.mul_ediv_add_emod (List.getD l 0 0) n
    have e2 : 0 ≤ n * (List.getD l 0 0 / n) := Int.mul_nonneg (by omega) (Int.ediv_nonneg h0.1 (by omega))
    omega
@[reducible] def aF (n : Nat) (s : List Int) : List Int := (List.take (min n 300) s)
theorem k7i (l : List Int) (n : Nat) (hn : List.length l = n) (hb : n ≤ 9223372036854775807) : Fun 13 [.c (.d (D.sl (dI .u8 l) n))] (kG []) 0 (rV 0 0) (kG [(0, some (66, .ds [D.sl (dI .u8 (aF n l)) (List.length (aF n l))]))]) 1 := by
  refine Fun.mk (n := 10) Try.func13 rfl rfl (Nat.le_of_ble_eq_true rfl) ?_
  intro cx hcx
  refine kK [.no] True [(0, sV .u8 l n)] [] 0 trivial ?_
  refine kK (kU 4 [.sls 0 (min n 300) (min n 300) (dI .u8 (aF n l)), .no, .no, .no]) ((kM 0) ∧ (((min (n : Int) 300) : Int) = (((min n 300) : Nat) : Int)) ∧ ((0 : Nat) ≤ (min n 300)) ∧ ((min n 300) ≤ n) ∧ ((min n 300) - 0 = (min n 300)) ∧ (List.take ((min n 300) * 1) (List.drop (0 * 1) (dI .u8 l)) = (dI .u8 (aF n l)))) [(2, rV 0 0)] [(0, some (66, .ds [db (aF n l) (min n 300)]))] 1 ⟨rfl, (by first | rfl | omega), zo, zo, zo, (by first | rfl | with_reducible assumption | exact qD _ _ _ | exact aJ _ _ _ | (simp only [u6, qS, qD, Nat.mul_one, Nat.zero_mul, List.drop_zero, List.nil_append, List.append_nil]; done) | (simp only [u6, qS, qD, Nat.mul_one, Nat.zero_mul, List.drop_zero, List.nil_append, List.append_nil]; rfl) | (rw [List.take_of_length_le (by simp only [u1, qJ, List.length_drop, List.length_replicate, Nat.mul_one] <;> omega)]; first | rfl | (simp only [qS, Nat.mul_one, Nat.zero_mul, List.drop_zero]; done) | (simp only [qS, Nat.mul_one, Nat.zero_mul, List.drop_zero]; rfl)))⟩ ?_
  refine AW.ret ?_
  exact kC (.inr rfl) [] (P := (kM 0) ∧ (([db (aF n l) (List.length (aF n l))] : List D) = [db (aF n l) (min n 300)])) zk ⟨rfl, (by have e9 : (aF n l).length = min n 300 := (by rw [List.length_take]; omega); rw [e9])⟩
theorem qW (l : List Int) (n : Int) (hb : Byt l) : Fun 22 [.c (.ptr 0 0), iE n] (kG [(0, some (66, .ds [D.sl (dI .u8 l) (List.length l)]))]) 1 (iV (((kB l n) : Nat) : Int)) (kG [(0, some (66, .ds [D.sl (dI .u8 (kA l n)) (List.length (kA l n))]))]) 1 := by
  refine Fun.mk (n := 34) Try.func22 rfl rfl (Nat.le_of_ble_eq_true rfl) ?_
  intro cx hcx
  refine kK [.no] True [(0, rV 0 0), (1, iV n)] [(0, some (66, .ds [db l (List.length l)]))] 1 trivial ?_
  refine AW.seq ?_
  by_cases hx1 : ((((List.length l) : Nat) : Int) = 0)
  · refine zr (kU 5 [.b true, .no, .no]) [0, 1, 15] [0] (((List.length l : Int) = 0)) [(0, rV 0 0), (1, iV n), (15, bV true)] [(0, some (66, .ds [db l (List.length l)]))] 1 zo ?_
    refine zt ?_
    refine kK [.no] True [(4, iV 0)] [(0, some (66, .ds [db l (List.length l)]))] 1 trivial ?_
    refine AW.ret ?_
    exact kC (.inr rfl) [] (P := (((kB l n : Int) : Int) = 0) ∧ (([db (kA l n) (List.length (kA l n))] : List D) = [db l (List.length l)])) zk ⟨(by first | rfl | exact aQ zo | exact dM hb zo | (rw [vM (by omega)]) | (rw [aR (by omega), List.length_drop])), (by first | rw [vM (by omega)] | rw [aR (by omega), List.length_drop])⟩
  · by_cases hx2 : (n ≤ 1)
    · refine zr (kU 5 [.b false, .no, .no, .b true, .no]) [0, 1, 15] [0] ((¬ ((List.length l : Int) = 0)) ∧ ((n ≤ 1))) [(0, rV 0 0), (1, iV n), (15, bV true)] [(0, some (66, .ds [db l (List.length l)]))] 1 ⟨zo, zo⟩ ?_
      refine zt ?_
      refine kK [.no] True [(4, iV 0)] [(0, some (66, .ds [db l (List.length l)]))] 1 trivial ?_
      refine AW.ret ?_
      exact kC (.inr rfl) [] (P := (((kB l n : Int) : Int) = 0) ∧ (([db (kA l n) (List.length (kA l n))] : List D) = [db l (List.length l)])) zk ⟨(by first | rfl | exact aQ zo | exact dM hb zo | (rw [vM (by omega)]) | (rw [aR (by omega), List.length_drop])), (by first | rw [vM (by omega)] | rw [aR (by omega), List.length_drop])⟩
    · refine zr (kU 5 [.b false, .no, .no, .b false, .no]) [0, 1, 15] [0] ((¬ ((List.length l : Int) = 0)) ∧ (¬ (n ≤ 1))) [(0, rV 0 0), (1, iV n), (15, bV false)] [(0, some (66, .ds [db l (List.length l)]))] 1 ⟨zo, zo⟩ ?_
      refine yV ?_
      have hx3 : 0 ≤ (List.getD l 0 0) ∧ (List.getD l 0 0) ≤ 255 := hb.at 0 zo
      refine kK (kU 4 [.n 0, .d (D.lit (.int .u8 (List.getD l 0 0))), .w, .no]) ((kN 0) ∧ ((0 : Nat) < (List.length l)) ∧ ((List.drop 0 (dI .u8 l))[0]? = some (D.lit (.int .u8 (List.getD l 0 0)))) ∧ (qL (List.getD l 0 0))) [(0, rV 0 0), (1, iV n), (5, iV (List.getD l 0 0))] [(0, some (66, .ds [db l (List.length l)]))] 1 ⟨rfl, zo, (qT _ _ _ (by first | omega | (simp only [u1, qJ, List.length_append, List.length_cons, List.length_nil, List.length_take, List.length_drop, List.length_replicate, List.length_set, List.length_map, List.length_reverse, Nat.mul_one] <;> omega) | rfl)), ⟨by omega, by omega⟩⟩ ?_
      refine kK (kU 5 [.sls 1 (List.length l) ((List.length l) - 1) (dI .u8 (List.drop 1 l)), .no, .no, .no]) ((kN 1) ∧ ((List.length l) = (List.length l)) ∧ ((1 : Nat) ≤ (List.length l)) ∧ ((List.length l) ≤ (List.length l)) ∧ ((List.length l) - 1 = ((List.length l) - 1)) ∧ (List.take (((List.length l) - 1) * 1) (List.drop (1 * 1) (dI .u8 l)) = (dI .u8 (List.drop 1 l)))) [(1, iV n), (5, iV (List.getD l 0 0))] [(0, some (66, .ds [db (List.drop 1 l) ((List.length l) - 1)]))] 1 ⟨rfl, rfl, zo, zo, zo, (by first | rfl | with_reducible assumption | exact qD _ _ _ | exact aJ _ _ _ | (simp only [u6, qS, qD, Nat.mul_one, Nat.zero_mul, List.drop_zero, List.nil_append, List.append_nil]; done) | (simp only [u6, qS, qD, Nat.mul_one, Nat.zero_mul, List.drop_zero, List.nil_append, List.append_nil]; rfl) | (rw [List.take_of_length_le (by simp only [u1, qJ, List.length_drop, List.length_replicate, Nat.mul_one] <;> omega)]; first | rfl | (simp only [qS, Nat.mul_one, Nat.zero_mul, List.drop_zero]; done) | (simp only [qS, Nat.mul_one, Nat.zero_mul, List.drop_zero]; rfl)))⟩ ?_
      refine kX [.no, .no, .ps, .no] (((0 : Int) ≤ ((List.getD l 0 0) : Int)) ∧ ((0 : Int) < (n : Int))) [(4, iV ((List.getD l 0 0) % n))] ⟨zo, zo⟩ ?_
      refine AW.ret ?_
      exact kC (.inr rfl) [] (P := (((kB l n : Int) : Int) = ((List.getD l 0 0) % n)) ∧ (([db (kA l n) (List.length (kA l n))] : List D) = [db (List.drop 1 l) ((List.length l) - 1)])) zk ⟨(by first | rfl | exact aQ zo | exact dM hb zo | (rw [vM (by omega)]) | (rw [aR (by omega), List.length_drop])), (by first | rw [vM (by omega)] | rw [aR (by omega), List.length_drop])⟩
end Go.Proofs.Ytalbpleglapihaa
namespace Go.Proofs.Ytalbpleglapihaa
open Go.ChangeShapes Go.WideShapes Go.ChangeAt Go.RowKit
set_option linter.unusedVariables false
set_option linter.unusedSimpArgs false
/-! chapter 10: boxes out of dice -/
set_option maxHeartbeats 4000000
set_option maxRecDepth 100000
def hJ : List (List Int) := [[3], [1, 2], [1, 2, 3, 4, 5, 6], [2, 1], [1, 2, 7, 8], [4], [1, 3]]
theorem u1n : MsW hJ := fun l h => by
 have h1 : ∀ l ∈ hJ, List.length l ≤ 6 := by decide
 have := h1 l h; omega
def uL (l : List Int) : List Int := List.getD hJ (kB l 7) []
def qP (l : List Int) : Nat → List Int
 | 0 => l
 | i + 1 => kA (qP l i) 2
def l1 (sp l : List Int) : Nat → List Int
 | 0 => []
 | i + 1 => if kB (qP l i) 2 = 1 then l1 sp l i ++ [List.getD sp (i * 2) 0, List.getD sp (i * 2 + 1) 0] else l1 sp l i
theorem yF {l : List Int} (h : Byt l) : ∀ i, Byt (qP l i)
 | 0 => h
 | i + 1 => kF _ (yF h i)
theorem u0p {sp l : List Int} {i : Nat} {o : List Int} (h : l1 sp l i = o) (h1 : kB (qP l i) 2 = 1) : l1 sp l (i + 1) = o ++ [List.getD sp (i * 2) 0, List.getD sp (i * 2 + 1) 0] := by
 subst h; exact if_pos h1
theorem u0q {sp l : List Int} {i : Nat} {o : List Int} (h : l1 sp l i = o) (h1 : ¬ kB (qP l i) 2 = 1) : l1 sp l (i + 1) = o := by
 subst h; exact if_neg h1
def y3 (sp l : List Int) (n : Nat) : List Int := if l1 sp l n = [] then [List.getD sp (kB (qP l n) (n : Int) * 2) 0, List.getD sp (kB (qP l n) (n : Int) * 2 + 1) 0] else l1 sp l n
def uZ (sp l : List Int) (n : Nat) : List Int := if l1 sp l n = [] then kA (qP l n) (n : Int) else qP l n
def y1 (sp l : List Int) (n : Nat) : Nat := (y3 sp l n).length / 2
theorem y6 {sp l : List Int} {n : Nat} (h : Byt l) : Byt (uZ sp l n) := by unfold uZ; split; exact kF _ (yF h n); exact yF h n
theorem u3z {sp l o : List Int} {n k i : Nat} (h : l1 sp l i = o) (hi : i = n) (hl : o.length = k * 2) (hk : k = 0) : y3 sp l n = o ++ [List.getD sp (kB (qP l i) (n : Int) * 2) 0, List.getD sp (kB (qP l i) (n : Int) * 2 + 1) 0] ∧ uZ sp l n = kA (qP l i) (n : Int) ∧ y1 sp l n = k + 1 := by
 subst hi; subst hk
 have h2 : o = [] := List.eq_nil_of_length_eq_zero (by omega)
 have h0 : l1 sp l i = [] := by rw [h, h2]
 have h1 : y3 sp l i = [List.getD sp (kB (qP l i) (i : Int) * 2) 0, List.getD sp (kB (qP l i) (i : Int) * 2 + 1) 0] := if_pos h0
 refine ⟨by rw [h1, h2]; rfl, if_pos h0, ?_⟩
 unfold y1; rw [h1, List.length_cons, List.length_cons, List.length_nil]
theorem u3y {sp l o : List Int} {n k i : Nat} (h : l1 sp l i = o) (hi : i = n) (hl : o.length = k * 2) (hk : 1 ≤ k) : y3 sp l n = o ∧ uZ sp l n = qP l i ∧ y1 sp l n = k := by
 subst hi
 have h0 : ¬ l1 sp l i = [] := fun e => by rw [h] at e; rw [e] at hl; have : (0 : Nat) = k * 2 := hl; omega
 have h1 : y3 sp l i = o := by unfold y3; rw [if_neg h0, h]
 refine ⟨h1, if_neg h0, ?_⟩
 unfold y1; rw [h1, hl]; omega
theorem mK (l : List Int) : List.length (uL l) ≤ 6 := by
 have h1 : ∀ l ∈ hJ, List.length l ≤ 6 := by decide
 unfold uL
 rw [List.getD_eq_getElem?_getD]
 cases e : hJ[kB l 7]? with
 | none => exact Nat.zero_le _
 | some x => exact h1 x (List.mem_of_getElem? e)
theorem k4r {l : List Int} (h : Byt l) : 1 ≤ List.length (uL l) ∧ List.length (uL l) ≤ 6 := by
 refine ⟨?_, mK l⟩
 have h1 : ∀ x ∈ hJ, 1 ≤ List.length x := by decide
 have h2 := kO l 7 h
 have h3 : kB l 7 < hJ.length := by show _ < 7; omega
 unfold uL
 rw [List.getD_eq_getElem?_getD, List.getElem?_eq_getElem h3]
 exact h1 _ (List.getElem_mem h3)
theorem yP {p : Prop} (h : p := by first | omega | (simp only [kR, kQ, qJ, List.length_append, List.length_cons, List.length_nil, List.length_take, List.length_drop, List.length_replicate, List.length_set, List.length_map, List.length_reverse, Nat.mul_one] <;> omega) | rfl) : p := h
theorem k9m   : Fun 72 [] (kG []) 0 (qY (qA hJ) 7) (kG []) 0 := by
 refine Fun.mk (n := 9) Try.func72 rfl rfl (Nat.le_of_ble_eq_true rfl) ?_
 intro cx hcx
 refine kK [.no] True [] [] 0 trivial ?_
 refine kK [(.fz (.no)), (.fz (.no)), (.fz (.no)), (.fz (.no)), (.fz (.no)), (.fz (.no)), (.fz (.no)), .no, .no] ((([iD 3] : List D).length = 1 * 1) ∧ (([iD 1, iD 2] : List D).length = 2 * 1) ∧ (([iD 1, iD 2, iD 3, iD 4, iD 5, iD 6] : List D).length = 6 * 1) ∧ (([iD 2, iD 1] : List D).length = 2 * 1) ∧ (([iD 1, iD 2, iD 7, iD 8] : List D).length = 4 * 1) ∧ (([iD 4] : List D).length = 1 * 1) ∧ (([iD 1, iD 3] : List D).length = 2 * 1)) [(0, oV 7 0 7 1)] [(7, some (63, .ds [D.sl [iD 3] 1, D.sl [iD 1, iD 2] 2, D.sl [iD 1, iD 2, iD 3, iD 4, iD 5, iD 6] 6, D.sl [iD 2, iD 1] 2, D.sl [iD 1, iD 2, iD 7, iD 8] 4, D.sl [iD 4] 1, D.sl [iD 1, iD 3] 2]))] 8 ⟨yP, yP, yP, yP, yP, yP, yP⟩ ?_
 refine AW.freeze 7 (l' := [(0, qY [D.sl [iD 3] 1, D.sl [iD 1, iD 2] 2, D.sl [iD 1, iD 2, iD 3, iD 4, iD 5, iD 6] 6, D.sl [iD 2, iD 1] 2, D.sl [iD 1, iD 2, iD 7, iD 8] 4, D.sl [iD 4] 1, D.sl [iD 1, iD 3] 2] 7)]) (g' := []) rfl (FzS.cons rfl (.e (.c (@FzC.own 7 ([D.sl [iD 3] 1, D.sl [iD 1, iD 2] 2, D.sl [iD 1, iD 2, iD 3, iD 4, iD 5, iD 6] 6, D.sl [iD 2, iD 1] 2, D.sl [iD 1, iD 2, iD 7, iD 8] 4, D.sl [iD 4] 1, D.sl [iD 1, iD 3] 2] : List D) 0 (7 : Nat) 1 true ([D.sl [iD 3] 1, D.sl [iD 1, iD 2] 2, D.sl [iD 1, iD 2, iD 3, iD 4, iD 5, iD 6] 6, D.sl [iD 2, iD 1] 2, D.sl [iD 1, iD 2, iD 7, iD 8] 4, D.sl [iD 4] 1, D.sl [iD 1, iD 3] 2] : List D) (by rw [List.drop_zero, Nat.mul_one, List.take_of_length_le (by first | omega | (simp only [kR, kQ, qJ, List.length_append, List.length_cons, List.length_nil, List.length_take, List.length_drop, List.length_replicate, List.length_set, List.length_map, List.length_reverse, Nat.mul_one] <;> omega))]) yP))) FzS.nil) FzG.nil ?_
 refine AW.ret ?_
 exact kC (.inr rfl) [] (P := (((qA hJ) : List D) = [D.sl [iD 3] 1, D.sl [iD 1, iD 2] 2, D.sl [iD 1, iD 2, iD 3, iD 4, iD 5, iD 6] 6, D.sl [iD 2, iD 1] 2, D.sl [iD 1, iD 2, iD 7, iD 8] 4, D.sl [iD 4] 1, D.sl [iD 1, iD 3] 2]) ∧ (kM 7)) zk ⟨(by first | rfl | decide), rfl⟩
theorem u2q (l : List Int) (hb : Byt l) : Fun 63 [.c (.ptr 0 0)] (kG [(0, some (66, .ds [D.sl (dI .u8 l) (List.length l)]))]) 1 (sV .i64 (uL l) (List.length (uL l))) (kG [(0, some (66, .ds [D.sl (dI .u8 (kA l 7)) (List.length (kA l 7))]))]) 1 := by
 refine Fun.mk (n := 8) Try.func63 rfl rfl (Nat.le_of_ble_eq_true rfl) ?_
 intro cx hcx
 refine kK [.no] True [(0, rV 0 0)] [(0, some (66, .ds [db l (List.length l)]))] 1 trivial ?_
 have hx1 : ((((((kB l 7) : Nat) : Int) < 7) ∨ ((kB l 7) = 0)) ∧ ((kB l 7) ≤ 255)) := kO l (7 : Int) (kP : Byt l)
 have hx2 : (Byt (kA l 7)) := kF (7 : Int) (kP : Byt l)
 have hx3 : ((List.length (List.getD hJ (kB l 7) ([] : List Int))) ≤ 1000000) := MsW.at u1n _
 refine kK [.call [] (qY (qA hJ) 7) [] 0 [] none, .no, .call [0] (uV (kB l 7)) [(0, some (66, .ds [db (kA l 7) (List.length (kA l 7))]))] 1 [] none, .n (kB l 7), .d (dl (List.getD hJ (kB l 7) ([] : List Int)) (List.length (List.getD hJ (kB l 7) ([] : List Int)))), .no] ((_) ∧ (_) ∧ (kN (kB l 7 : Int)) ∧ ((kB l 7) < 7) ∧ ((List.drop (kB l 7) (qA hJ))[0]? = some (dl (List.getD hJ (kB l 7) ([] : List Int)) (List.length (List.getD hJ (kB l 7) ([] : List Int)))))) [(2, sV .i64 (List.getD hJ (kB l 7) ([] : List Int)) (List.length (List.getD hJ (kB l 7) ([] : List Int))))] [(0, some (66, .ds [db (kA l 7) (List.length (kA l 7))]))] 1 ⟨(k9m), (qW l 7 (kP : Byt l)), rfl, zo, (eY _ _ (by show _ < 7; omega))⟩ ?_
 refine AW.ret ?_
 exact kC (.inr rfl) [] (P := (((dI .i64 (uL l)) : List D) = (dI .i64 (List.getD hJ (kB l 7) ([] : List Int)))) ∧ (((List.length (uL l)) : Nat) = (List.length (List.getD hJ (kB l 7) ([] : List Int)))) ∧ (k8 [db (kA l 7) (List.length (kA l 7))])) zk ⟨(by first | rfl | decide), (by first | omega | rfl | assumption | (simp; done) | (simp; omega)), rfl⟩
abbrev aC (l : List Int) (i : Nat) : BC := .ds [D.sl (dI .u8 (qP l i)) (List.length (qP l i))]
abbrev eS (l : List Int) (i : Nat) : BC := .ds [D.sl (dI .u8 (kA (qP l i) 2)) (List.length (kA (qP l i) 2))]
theorem k7j (sp : List Int) (n : Nat) (l : List Int) (hl : List.length sp = n * 2) (h1 : 1 ≤ n) (h2 : n ≤ 1000) (hb : Byt l) : Fun 62 [.c (.ptr 0 0), .c (.d (D.sl (dI .i64 sp) n))] (kG [(0, some (66, .ds [D.sl (dI .u8 l) (List.length l)]))]) 1 (.e (.agg [.d (D.sl (dI .i64 (bH (y3 sp l n) (y1 sp l n))) (yG (y3 sp l n) (y1 sp l n)))])) (kG [(0, some (66, .ds [D.sl (dI .u8 (uZ sp l n)) (List.length (uZ sp l n))]))]) 1 := by
 refine Fun.mk (n := 43) Try.func62 rfl rfl (Nat.le_of_ble_eq_true rfl) ?_
 intro cx hcx
 refine kK [.no] True [(0, rV 0 0), (1, sV .i64 sp n), (4, rV 1 0)] [(0, some (66, .ds [db l (List.length l)])), (1, some (75, .ds [qH]))] 2 trivial ?_
 refine kX [.no] True [(0, rV 0 0), (1, sV .i64 sp n), (4, rV 1 0), (5, nV)] trivial ?_
 refine AW.seq ?_
 refine kX [.no, .no, .no] True [(0, rV 0 0), (1, sV .i64 sp n), (4, rV 1 0), (5, nV), (10, sV .i64 sp n), (11, uV n), (12, iV 0)] trivial ?_
 refine AW.block ?_
 refine AW.adoptS 5 2 96 rfl ?_
 refine kW 1 hcx (fun (x : {x : Nat × Nat × List Int // match x with | (i, k, o) => (i ≤ n ∧ k ≤ i) ∧ (l1 sp l i = o) ∧ (List.length o = k * 2)}) => match x with | ⟨(i, k, o), _⟩ => (⟨[(0, rV 0 0), (1, sV .i64 sp n), (4, rV 1 0), (5, oV 3 0 k 2), (10, sV .i64 sp n), (11, uV n), (12, uV i)], [(0, some (66, (aC l i))), (1, some (75, .ds [qH])), (3, some (96, .ds (dI .i64 o)))], 4⟩ : ES)) (fun x => match x with | ⟨(i, k, o), _⟩ => n - i) ⟨((0 : Nat), (0 : Nat), (([] : List Int) : List Int)), ⟨(by first | omega | assumption | simp), rfl, rfl⟩⟩ [(3, 2)] (P := (kM 0) ∧ (k8 (dI .i64 sp)) ∧ (kM n) ∧ (kM 0) ∧ (kM 0) ∧ (kM 0) ∧ (k8 (dI .i64 sp)) ∧ (kM n) ∧ (kN (n : Int)) ∧ (kN 0) ∧ (([db (qP l 0) (List.length (qP l 0))] : List D) = [db l (List.length l)]) ∧ (k8 [qH]) ∧ (((dI .i64 ([] : List Int)) : List D) = ([] : List D))) zk ⟨rfl, rfl, rfl, rfl, rfl, rfl, rfl, rfl, rfl, rfl, (by first | rfl | with_reducible assumption), rfl, (by first | rfl | with_reducible assumption)⟩ ?_
 rintro ⟨⟨i, k, o⟩, hinv0⟩
 obtain ⟨hi, hS, ho⟩ : (i ≤ n ∧ k ≤ i) ∧ (l1 sp l i = o) ∧ (List.length o = k * 2) := hinv0
 refine uI (l := [(0, rV 0 0), (1, sV .i64 sp n), (4, rV 1 0), (5, oV 3 0 k 2), (10, sV .i64 sp n), (11, uV n), (12, uV i)]) (g := [(0, some (66, (aC l i))), (1, some (75, .ds [qH])), (3, some (96, .ds (dI .i64 o)))]) (nx := 4) rfl rfl rfl ?_
 by_cases hx1 : (((i : Nat) : Int) < ((n : Nat) : Int))
 ·refine kK [.b true] (((i : Int) < (n : Int))) [(0, rV 0 0), (1, sV .i64 sp n), (4, rV 1 0), (5, oV 3 0 k 2), (10, sV .i64 sp n), (11, uV n), (12, uV i), (13, bV true)] [(0, some (66, (aC l i))), (1, some (75, .ds [qH])), (3, some (96, .ds (dI .i64 o)))] 4 zo ?_
  refine AW.seq ?_
  refine vD ?_
  refine AW.seq ?_
  refine AW.block ?_
  refine kK [.n i, .ds [iD (List.getD sp (i * 2) 0), iD (List.getD sp ((i * 2) + 1) 0)], .no, .no] ((kN (i : Int)) ∧ (i < n) ∧ (List.take 2 (List.drop (i * 2) (dI .i64 sp)) = [iD (List.getD sp (i * 2) 0), iD (List.getD sp ((i * 2) + 1) 0)]) ∧ (([iD (List.getD sp (i * 2) 0), iD (List.getD sp ((i * 2) + 1) 0)] : List D).length = 2)) [(0, rV 0 0), (1, sV .i64 sp n), (4, rV 1 0), (5, oV 3 0 k 2), (7, rV 4 0), (10, sV .i64 sp n), (11, uV n), (12, uV i)] [(0, some (66, (aC l i))), (1, some (75, .ds [qH])), (3, some (96, .ds (dI .i64 o))), (4, some (96, .ds [iD (List.getD sp (i * 2) 0), iD (List.getD sp ((i * 2) + 1) 0)]))] 5 ⟨rfl, zo, (dC .i64 sp (i * 2) 2 yP), rfl⟩ ?_
  by_cases hx4 : ((((kB (qP l i) 2) : Nat) : Int) = 1)
  ·have hx5 : ((((((kB (qP l i) 2) : Nat) : Int) < 2) ∨ ((kB (qP l i) 2) = 0)) ∧ ((kB (qP l i) 2) ≤ 255)) := kO (qP l i) (2 : Int) ((yF (kP : Byt l) _))
   have hx6 : (Byt (kA (qP l i) 2)) := kF (2 : Int) ((yF (kP : Byt l) _))
   refine kK [.no, .call [0] (uV (kB (qP l i) 2)) [(0, some (66, (eS l i)))] 1 [] none, .b true] ((_) ∧ (((kB (qP l i) 2 : Int) = 1))) [(0, rV 0 0), (1, sV .i64 sp n), (4, rV 1 0), (5, oV 3 0 k 2), (7, rV 4 0), (10, sV .i64 sp n), (11, uV n), (12, uV i), (18, bV true)] [(0, some (66, (eS l i))), (1, some (75, .ds [qH])), (3, some (96, .ds (dI .i64 o))), (4, some (96, .ds [iD (List.getD sp (i * 2) 0), iD (List.getD sp ((i * 2) + 1) 0)]))] 5 ⟨(qW (qP l i) 2 (yF (kP : Byt l) _)), zo⟩ ?_
   refine zt ?_
   refine aX [.no, .no, .no, .ap none (k + 1) (dI .i64 (o ++ ([(List.getD sp (i * 2) 0), (List.getD sp ((i * 2) + 1) 0)] : List Int))), .no] (([iD (List.getD sp (i * 2) 0), iD (List.getD sp ((i * 2) + 1) 0)].length = 1 * 2) ∧ (((dI .i64 o) : List D).length = k * 2) ∧ ((k + 1) * 16 ≤ 140737488355328) ∧ (k + 1 = (k + 1)) ∧ (((dI .i64 o) : List D) ++ [iD (List.getD sp (i * 2) 0), iD (List.getD sp ((i * 2) + 1) 0)] = (dI .i64 (o ++ ([(List.getD sp (i * 2) 0), (List.getD sp ((i * 2) + 1) 0)] : List Int))))) [(0, rV 0 0), (1, sV .i64 sp n), (4, rV 1 0), (5, oV 6 0 (k + 1) 2), (10, sV .i64 sp n), (11, uV n), (12, uV i)] [(0, some (66, (eS l i))), (1, some (75, .ds [qH])), (6, some (96, .ds (dI .i64 (o ++ ([(List.getD sp (i * 2) 0), (List.getD sp ((i * 2) + 1) 0)] : List Int)))))] 7 ⟨yP, yP, zo, zo, (qD .i64 o ([(List.getD sp (i * 2) 0), (List.getD sp ((i * 2) + 1) 0)] : List Int))⟩ ?_
   refine yH [.w, .no] (qL ((i : Int) + 1)) [(0, rV 0 0), (1, sV .i64 sp n), (4, rV 1 0), (5, oV 6 0 (k + 1) 2), (10, sV .i64 sp n), (11, uV n), (12, iV (↑i + 1))] ⟨by omega, by omega⟩ ?_
   exact qQ ⟨(((i + 1) : Nat), ((k + 1) : Nat), ((o ++ ([(List.getD sp (i * 2) 0), (List.getD sp ((i * 2) + 1) 0)] : List Int)) : List Int)), ⟨(by first | omega | assumption | simp), (by first | exact u0p hS zo | exact u0q hS zo), (by first | assumption | (simp only [kR, kQ, List.length_append, List.length_cons, List.length_nil] <;> omega))⟩⟩ [(3, 6)] (P := (kM 0) ∧ (k8 (dI .i64 sp)) ∧ (kM n) ∧ (kM 0) ∧ (kM 0) ∧ (kM (k + 1)) ∧ (k8 (dI .i64 sp)) ∧ (kM n) ∧ (kN (n : Int)) ∧ (((((i + 1) : Nat) : Int) : Int) = ((i : Int) + 1)) ∧ (([db (qP l (i + 1)) (List.length (qP l (i + 1)))] : List D) = [db (kA (qP l i) 2) (List.length (kA (qP l i) 2))]) ∧ (k8 [qH]) ∧ (k8 (dI .i64 (o ++ ([(List.getD sp (i * 2) 0), (List.getD sp ((i * 2) + 1) 0)] : List Int))))) zk ⟨rfl, rfl, rfl, rfl, rfl, rfl, rfl, rfl, rfl, (by first | rfl | omega | assumption | (simp; done) | (simp; omega)), (by first | rfl | with_reducible assumption), rfl, rfl⟩ (show n - (i + 1) < n - i from (by first | omega | (show _ < _; simp; omega)))
  ·have hx7 : ((((((kB (qP l i) 2) : Nat) : Int) < 2) ∨ ((kB (qP l i) 2) = 0)) ∧ ((kB (qP l i) 2) ≤ 255)) := kO (qP l i) (2 : Int) ((yF (kP : Byt l) _))
   have hx8 : (Byt (kA (qP l i) 2)) := kF (2 : Int) ((yF (kP : Byt l) _))
   refine kK [.no, .call [0] (uV (kB (qP l i) 2)) [(0, some (66, (eS l i)))] 1 [] none, .b false] ((_) ∧ (¬ ((kB (qP l i) 2 : Int) = 1))) [(0, rV 0 0), (1, sV .i64 sp n), (4, rV 1 0), (5, oV 3 0 k 2), (7, rV 4 0), (10, sV .i64 sp n), (11, uV n), (12, uV i), (18, bV false)] [(0, some (66, (eS l i))), (1, some (75, .ds [qH])), (3, some (96, .ds (dI .i64 o))), (4, some (96, .ds [iD (List.getD sp (i * 2) 0), iD (List.getD sp ((i * 2) + 1) 0)]))] 5 ⟨(qW (qP l i) 2 (yF (kP : Byt l) _)), zo⟩ ?_
   refine yV ?_
   refine aX [.w, .no] (qL ((i : Int) + 1)) [(0, rV 0 0), (1, sV .i64 sp n), (4, rV 1 0), (5, oV 3 0 k 2), (10, sV .i64 sp n), (11, uV n), (12, iV (↑i + 1))] [(0, some (66, (eS l i))), (1, some (75, .ds [qH])), (3, some (96, .ds (dI .i64 o)))] 5 ⟨by omega, by omega⟩ ?_
   exact qQ ⟨(((i + 1) : Nat), (k : Nat), (o : List Int)), ⟨(by first | omega | assumption | simp), (by first | exact u0p hS zo | exact u0q hS zo), (by first | assumption | (simp only [kR, kQ, List.length_append, List.length_cons, List.length_nil] <;> omega))⟩⟩ [] (P := (kM 0) ∧ (k8 (dI .i64 sp)) ∧ (kM n) ∧ (kM 0) ∧ (kM 0) ∧ (kM k) ∧ (k8 (dI .i64 sp)) ∧ (kM n) ∧ (kN (n : Int)) ∧ (((((i + 1) : Nat) : Int) : Int) = ((i : Int) + 1)) ∧ (([db (qP l (i + 1)) (List.length (qP l (i + 1)))] : List D) = [db (kA (qP l i) 2) (List.length (kA (qP l i) 2))]) ∧ (k8 [qH]) ∧ (k8 (dI .i64 o))) zk ⟨rfl, rfl, rfl, rfl, rfl, rfl, rfl, rfl, rfl, (by first | rfl | omega | assumption | (simp; done) | (simp; omega)), (by first | rfl | with_reducible assumption), rfl, rfl⟩ (show n - (i + 1) < n - i from (by first | omega | (show _ < _; simp; omega)))
 ·refine kK [.b false] (¬ ((i : Int) < (n : Int))) [(0, rV 0 0), (1, sV .i64 sp n), (4, rV 1 0), (5, oV 3 0 k 2), (10, sV .i64 sp n), (11, uV n), (12, uV i), (13, bV false)] [(0, some (66, (aC l i))), (1, some (75, .ds [qH])), (3, some (96, .ds (dI .i64 o)))] 4 zo ?_
  refine AW.seq ?_
  refine zf ?_
  refine AW.exit ?_
  refine AW.seq ?_
  by_cases hx9 : (((k : Nat) : Int) = 0)
  ·refine kK [.no, .no, .b true] (((k : Int) = 0)) [(0, rV 0 0), (1, sV .i64 sp n), (4, rV 1 0), (5, oV 3 0 k 2), (26, bV true)] [(0, some (66, (aC l i))), (1, some (75, .ds [qH])), (3, some (96, .ds (dI .i64 o)))] 4 zo ?_
   refine zt ?_
   have hx10 : ((((((kB (qP l i) ((n : Nat) : Int)) : Nat) : Int) < ((n : Nat) : Int)) ∨ ((kB (qP l i) ((n : Nat) : Int)) = 0)) ∧ ((kB (qP l i) ((n : Nat) : Int)) ≤ 255)) := kO (qP l i) ((n : Nat) : Int) ((yF (kP : Byt l) _))
   have hx11 : (Byt (kA (qP l i) ((n : Nat) : Int))) := kF ((n : Nat) : Int) ((yF (kP : Byt l) _))
   refine aX (kU 5 [.call [0] (uV (kB (qP l i) (n : Int))) [(0, some (66, .ds [db (kA (qP l i) (n : Int)) (List.length (kA (qP l i) (n : Int)))]))] 1 [] none, .n (kB (qP l i) (n : Int)), .ds [iD (List.getD sp ((kB (qP l i) (n : Int)) * 2) 0), iD (List.getD sp (((kB (qP l i) (n : Int)) * 2) + 1) 0)], .no, .ap none (k + 1) (dI .i64 (o ++ ([(List.getD sp ((kB (qP l i) (n : Int)) * 2) 0), (List.getD sp (((kB (qP l i) (n : Int)) * 2) + 1) 0)] : List Int))), .no]) ((_) ∧ (kN (((kB (qP l i) (n : Int)) : Nat) : Int)) ∧ ((kB (qP l i) (n : Int)) < n) ∧ (List.take 2 (List.drop ((kB (qP l i) (n : Int)) * 2) (dI .i64 sp)) = [iD (List.getD sp ((kB (qP l i) (n : Int)) * 2) 0), iD (List.getD sp (((kB (qP l i) (n : Int)) * 2) + 1) 0)]) ∧ (([iD (List.getD sp ((kB (qP l i) (n : Int)) * 2) 0), iD (List.getD sp (((kB (qP l i) (n : Int)) * 2) + 1) 0)] : List D).length = 2) ∧ ([iD (List.getD sp ((kB (qP l i) (n : Int)) * 2) 0), iD (List.getD sp (((kB (qP l i) (n : Int)) * 2) + 1) 0)].length = 1 * 2) ∧ (((dI .i64 o) : List D).length = k * 2) ∧ ((k + 1) * 16 ≤ 140737488355328) ∧ (k + 1 = (k + 1)) ∧ (((dI .i64 o) : List D) ++ [iD (List.getD sp ((kB (qP l i) (n : Int)) * 2) 0), iD (List.getD sp (((kB (qP l i) (n : Int)) * 2) + 1) 0)] = (dI .i64 (o ++ ([(List.getD sp ((kB (qP l i) (n : Int)) * 2) 0), (List.getD sp (((kB (qP l i) (n : Int)) * 2) + 1) 0)] : List Int))))) [(4, rV 1 0), (5, oV 5 0 (k + 1) 2)] [(0, some (66, .ds [db (kA (qP l i) ↑n) (List.length (kA (qP l i) ↑n))])), (1, some (75, .ds [qH])), (5, some (96, .ds (dI .i64 (o ++ ([(List.getD sp ((kB (qP l i) ↑n) * 2) 0), (List.getD sp (((kB (qP l i) ↑n) * 2) + 1) 0)] : List Int)))))] 6 ⟨(qW (qP l i) (n : Int) (yF (kP : Byt l) _)), rfl, zo, (dC .i64 sp ((kB (qP l i) (n : Int)) * 2) 2 yP), rfl, yP, yP, zo, zo, (qD .i64 o ([(List.getD sp ((kB (qP l i) (n : Int)) * 2) 0), (List.getD sp (((kB (qP l i) (n : Int)) * 2) + 1) 0)] : List Int))⟩ ?_
   refine AW.freeze 5 (l' := [(4, rV 1 0), (5, sV .i64 (o ++ ([(List.getD sp ((kB (qP l i) (n : Int)) * 2) 0), (List.getD sp (((kB (qP l i) (n : Int)) * 2) + 1) 0)] : List Int)) (k + 1))]) (g' := [(0, some (66, .ds [db (kA (qP l i) (n : Int)) (List.length (kA (qP l i) (n : Int)))])), (1, some (75, .ds [qH]))]) rfl (FzS.cons rfl (.same _) (FzS.cons rfl (.e (.c (@FzC.own 5 ((dI .i64 (o ++ ([(List.getD sp ((kB (qP l i) (n : Int)) * 2) 0), (List.getD sp (((kB (qP l i) (n : Int)) * 2) + 1) 0)] : List Int))) : List D) 0 (k + 1) 2 true ((dI .i64 (o ++ ([(List.getD sp ((kB (qP l i) (n : Int)) * 2) 0), (List.getD sp (((kB (qP l i) (n : Int)) * 2) + 1) 0)] : List Int))) : List D) (by rw [List.drop_zero, List.take_of_length_le (by first | omega | (simp only [kR, kQ, qJ, List.length_append, List.length_cons, List.length_nil, List.length_take, List.length_drop, List.length_replicate, List.length_set, List.length_map, List.length_reverse, Nat.mul_one] <;> omega))]) yP))) FzS.nil)) (uP rfl rfl (uP rfl rfl FzG.nil)) ?_
   have hx12 : ((List.length (bH (o ++ ([(List.getD sp ((kB (qP l i) ((n : Nat) : Int)) * 2) 0), (List.getD sp (((kB (qP l i) ((n : Nat) : Int)) * 2) + 1) 0)] : List Int)) (k + 1))) = ((yG (o ++ ([(List.getD sp ((kB (qP l i) ((n : Nat) : Int)) * 2) 0), (List.getD sp (((kB (qP l i) ((n : Nat) : Int)) * 2) + 1) 0)] : List Int)) (k + 1)) * 2)) := dO (o ++ ([(List.getD sp ((kB (qP l i) ((n : Nat) : Int)) * 2) 0), (List.getD sp (((kB (qP l i) ((n : Nat) : Int)) * 2) + 1) 0)] : List Int)) (k + 1)
   have hx13 : ((((0 : Int) ≤ (jD (o ++ ([(List.getD sp ((kB (qP l i) ((n : Nat) : Int)) * 2) 0), (List.getD sp (((kB (qP l i) ((n : Nat) : Int)) * 2) + 1) 0)] : List Int)) (k + 1))) ∧ ((jD (o ++ ([(List.getD sp ((kB (qP l i) ((n : Nat) : Int)) * 2) 0), (List.getD sp (((kB (qP l i) ((n : Nat) : Int)) * 2) + 1) 0)] : List Int)) (k + 1)) ≤ 3)) ∧ ((yG (o ++ ([(List.getD sp ((kB (qP l i) ((n : Nat) : Int)) * 2) 0), (List.getD sp (((kB (qP l i) ((n : Nat) : Int)) * 2) + 1) 0)] : List Int)) (k + 1)) ≤ 64)) := hU (o ++ ([(List.getD sp ((kB (qP l i) ((n : Nat) : Int)) * 2) 0), (List.getD sp (((kB (qP l i) ((n : Nat) : Int)) * 2) + 1) 0)] : List Int)) (k + 1)
   refine kK (.no :: .call [] (.tup [.agg [.d (dl (bH (o ++ ([(List.getD sp ((kB (qP l i) (n : Int)) * 2) 0), (List.getD sp (((kB (qP l i) (n : Int)) * 2) + 1) 0)] : List Int)) (k + 1)) (yG (o ++ ([(List.getD sp ((kB (qP l i) (n : Int)) * 2) 0), (List.getD sp (((kB (qP l i) (n : Int)) * 2) + 1) 0)] : List Int)) (k + 1)))], iE (jD (o ++ ([(List.getD sp ((kB (qP l i) (n : Int)) * 2) 0), (List.getD sp (((kB (qP l i) (n : Int)) * 2) + 1) 0)] : List Int)) (k + 1))]) [] 0 [] none :: kU 6 []) _ [(4, rV 1 0), (8, rV 6 0)] [(0, some (66, .ds [db (kA (qP l i) ↑n) (List.length (kA (qP l i) ↑n))])), (1, some (75, .ds [qH])), (6, some (75, .ds [dl (bH (o ++ ([(List.getD sp ((kB (qP l i) ↑n) * 2) 0), (List.getD sp (((kB (qP l i) ↑n) * 2) + 1) 0)] : List Int)) (k + 1)) (yG (o ++ ([(List.getD sp ((kB (qP l i) ↑n) * 2) 0), (List.getD sp (((kB (qP l i) ↑n) * 2) + 1) 0)] : List Int)) (k + 1))]))] 7 (w6 (o ++ ([(List.getD sp ((kB (qP l i) (n : Int)) * 2) 0), (List.getD sp (((kB (qP l i) (n : Int)) * 2) + 1) 0)] : List Int)) (k + 1) (by first | omega | with_reducible assumption | (simp only [kR, kQ, List.length_append, List.length_cons, List.length_nil, List.length_take, List.length_drop, List.length_replicate, List.length_set] <;> omega) | rfl | assumption) zo) ?_
   refine kK [.no, .no] True [(4, rV 1 0)] [(0, some (66, .ds [db (kA (qP l i) ↑n) (List.length (kA (qP l i) ↑n))])), (1, some (75, .ds [dl (bH (o ++ ([(List.getD sp ((kB (qP l i) ↑n) * 2) 0), (List.getD sp (((kB (qP l i) ↑n) * 2) + 1) 0)] : List Int)) (k + 1)) (yG (o ++ ([(List.getD sp ((kB (qP l i) ↑n) * 2) 0), (List.getD sp (((kB (qP l i) ↑n) * 2) + 1) 0)] : List Int)) (k + 1))]))] 7 trivial ?_
   obtain ⟨hz1, hz2, hz3⟩ := u3z hS (show i = n by omega) ho zo
   refine AW.ret ?_
   exact kC (.inr rfl) [] (P := (((dI .i64 (bH (y3 sp l n) (y1 sp l n))) : List D) = (dI .i64 (bH (o ++ ([(List.getD sp ((kB (qP l i) (n : Int)) * 2) 0), (List.getD sp (((kB (qP l i) (n : Int)) * 2) + 1) 0)] : List Int)) (k + 1)))) ∧ (((yG (y3 sp l n) (y1 sp l n)) : Nat) = (yG (o ++ ([(List.getD sp ((kB (qP l i) (n : Int)) * 2) 0), (List.getD sp (((kB (qP l i) (n : Int)) * 2) + 1) 0)] : List Int)) (k + 1))) ∧ (([db (uZ sp l n) (List.length (uZ sp l n))] : List D) = [db (kA (qP l i) (n : Int)) (List.length (kA (qP l i) (n : Int)))])) zk ⟨(by first | rfl | (rw [hz1, hz3]; done) | (rw [hz1, hz3]; rfl) | (rw [hz2]; done) | (rw [hz2]; rfl)), (by first | rfl | (rw [hz1, hz3]; done) | (rw [hz2]; done) | omega), (by first | rfl | (rw [hz1, hz3]; done) | (rw [hz1, hz3]; rfl) | (rw [hz2]; done) | (rw [hz2]; rfl))⟩
  ·refine kK [.no, .no, .b false] (¬ ((k : Int) = 0)) [(0, rV 0 0), (1, sV .i64 sp n), (4, rV 1 0), (5, oV 3 0 k 2), (26, bV false)] [(0, some (66, (aC l i))), (1, some (75, .ds [qH])), (3, some (96, .ds (dI .i64 o)))] 4 zo ?_
   refine yV ?_
   refine AW.freeze 3 (l' := [(0, rV 0 0), (1, sV .i64 sp n), (4, rV 1 0), (5, sV .i64 o k), (26, bV false)]) (g' := [(0, some (66, (aC l i))), (1, some (75, .ds [qH]))]) rfl (FzS.cons rfl (.same _) (FzS.cons rfl (.same _) (FzS.cons rfl (.same _) (FzS.cons rfl (.e (.c (@FzC.own 3 ((dI .i64 o) : List D) 0 k 2 true ((dI .i64 o) : List D) (by rw [List.drop_zero, List.take_of_length_le (by first | omega | (simp only [kR, kQ, qJ, List.length_append, List.length_cons, List.length_nil, List.length_take, List.length_drop, List.length_replicate, List.length_set, List.length_map, List.length_reverse, Nat.mul_one] <;> omega))]) yP))) (FzS.cons rfl (.same _) FzS.nil))))) (uP rfl rfl (uP rfl rfl FzG.nil)) ?_
   have hx14 : ((List.length (bH o k)) = ((yG o k) * 2)) := dO o k
   have hx15 : ((((0 : Int) ≤ (jD o k)) ∧ ((jD o k) ≤ 3)) ∧ ((yG o k) ≤ 64)) := hU o k
   refine kK (.no :: .call [] (.tup [.agg [.d (dl (bH o k) (yG o k))], iE (jD o k)]) [] 0 [] none :: kU 6 []) _ [(4, rV 1 0), (8, rV 4 0)] [(0, some (66, (aC l i))), (1, some (75, .ds [qH])), (4, some (75, .ds [dl (bH o k) (yG o k)]))] 5 (w6 o k zo zo) ?_
   refine kK [.no, .no] True [(4, rV 1 0)] [(0, some (66, (aC l i))), (1, some (75, .ds [dl (bH o k) (yG o k)]))] 5 trivial ?_
   obtain ⟨hz1, hz2, hz3⟩ := u3y hS (show i = n by omega) ho zo
   refine AW.ret ?_
   exact kC (.inr rfl) [] (P := (((dI .i64 (bH (y3 sp l n) (y1 sp l n))) : List D) = (dI .i64 (bH o k))) ∧ (((yG (y3 sp l n) (y1 sp l n)) : Nat) = (yG o k)) ∧ (([db (uZ sp l n) (List.length (uZ sp l n))] : List D) = [db (qP l i) (List.length (qP l i))])) zk ⟨(by first | rfl | (rw [hz1, hz3]; done) | (rw [hz1, hz3]; rfl) | (rw [hz2]; done) | (rw [hz2]; rfl)), (by first | rfl | (rw [hz1, hz3]; done) | (rw [hz2]; done) | omega), (by first | rfl | (rw [hz1, hz3]; done) | (rw [hz1, hz3]; rfl) | (rw [hz2]; done) | (rw [hz2]; rfl))⟩
end Go.Proofs.Ytalbpleglapihaa
