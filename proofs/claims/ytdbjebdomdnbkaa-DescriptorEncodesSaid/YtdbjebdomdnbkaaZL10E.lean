/- Merged texts. -/
import Derived.Test.YtdbjebdomdnbkaaZLBy
import Derived.Test.YtdbjebdomdnbkaaZL10D
namespace Go.Proofs.Ytdbjebdomdnbkaa
open Go.ChangeShapes Go.WideShapes Go.ChangeAt Go.RowKit
set_option linter.unusedVariables false
set_option linter.unusedSimpArgs false
set_option maxHeartbeats 4000000
set_option maxRecDepth 100000
def kB (l : List Int) (n : Int) : Nat := if l.length = 0 ∨ n ≤ 1 then 0 else (List.getD l 0 0 % n).toNat
def kA (l : List Int) (n : Int) : List Int := if l.length = 0 ∨ n ≤ 1 then l else List.drop 1 l
theorem cN {l : List Int} {n : Int} (h : l.length = 0 ∨ n ≤ 1) : ((kB l n : Nat) : Int) = 0 := by unfold kB; rw [if_pos h]; rfl
theorem aW {l : List Int} {n : Int} (h : l.length = 0 ∨ n ≤ 1) : kA l n = l := if_pos h
theorem gI {l : List Int} {n : Int} (hb : Byt l) (h : ¬ (l.length = 0 ∨ n ≤ 1)) : ((kB l n : Nat) : Int) = List.getD l 0 0 % n := by
  unfold kB; rw [if_neg h]; exact Int.toNat_of_nonneg (Int.emod_nonneg _ (by omega))
theorem cO {l : List Int} {n : Int} (h : ¬ (l.length = 0 ∨ n ≤ 1)) : kA l n = List.drop 1 l := if_neg h
theorem kE {l : List Int} (n : Int) (h : Byt l) : Byt (kA l n) := by
  unfold kA; split
  · exact h
  · exact h.drop 1
theorem kO (l : List Int) (n : Int) (h : Byt l) : (((kB l n : Nat) : Int) < n ∨ kB l n = 0) ∧ kB l n ≤ 255 := by
  by_cases hn : l.length = 0 ∨ n ≤ 1
  · have := cN hn; omega
  · have e0 := gI h hn
    have h0 := Byt.at h 0 (by omega)
    have e3 := Int.emod_lt_of_pos (List.getD l 0 0) (b := n) (by omega)
    have e1 := Int.mul_ediv_add_emod (List.getD l 0 0) n
    have e2 : 0 ≤ n * (List.getD l 0 0 / n) := Int.mul_nonneg (by omega) (Int.ediv_nonneg h0.1 (by omega))
    omega
@[reducible] def aI (n : Nat) (s : List Int) : List Int := (List.take (min n 300) s)
theorem u0y (l : List Int) (n : Nat) (hn : List.length l = n) (hb : n ≤ 9223372036854775807) : Fun 14 [.c (.d (D.sl (dI .u8 l) n))] (kF []) 0 (rV 0 0) (kF [(0, some (77, .ds [D.sl (dI .u8 (aI n l)) (List.length (aI n l))]))]) 1 := by
  refine Fun.mk (n := 10) Try.func14 rfl rfl (Nat.le_of_ble_eq_true rfl) ?_
  intro cx hcx
  refine kI [.no] True [(0, sV .u8 l n)] [] 0 trivial ?_
  refine kI (kJ 4 [.sls 0 (min n 300) (min n 300) (dI .u8 (aI n l)), .no, .no, .no]) ((kP 0) ∧ (((min (n : Int) 300) : Int) = (((min n 300) : Nat) : Int)) ∧ ((0 : Nat) ≤ (min n 300)) ∧ ((min n 300) ≤ n) ∧ ((min n 300) - 0 = (min n 300)) ∧ (List.take ((min n 300) * 1) (List.drop (0 * 1) (dI .u8 l)) = (dI .u8 (aI n l)))) [(2, rV 0 0)] [(0, some (77, .ds [db (aI n l) (min n 300)]))] 1 ⟨rfl, (by first | rfl | omega), zo, zo, zo, (by first | rfl | with_reducible assumption | exact qT _ _ _ | exact dF _ _ _ | (simp only [yO, uA, qT, Nat.mul_one, Nat.zero_mul, List.drop_zero, List.nil_append, List.append_nil]; done) | (simp only [yO, uA, qT, Nat.mul_one, Nat.zero_mul, List.drop_zero, List.nil_append, List.append_nil]; rfl) | (rw [List.take_of_length_le (by simp only [u2, qM, List.length_drop, List.length_replicate, Nat.mul_one] <;> omega)]; first | rfl | (simp only [uA, Nat.mul_one, Nat.zero_mul, List.drop_zero]; done) | (simp only [uA, Nat.mul_one, Nat.zero_mul, List.drop_zero]; rfl)))⟩ ?_
  refine AW.ret ?_
  exact kC (.inr rfl) [] (P := (kP 0) ∧ (([db (aI n l) (List.length (aI n l))] : List D) = [db (aI n l) (min n 300)])) zk ⟨rfl, (by have e9 : (aI n l).length = min n 300 := (by rw [List.length_take]; omega); rw [e9])⟩
theorem qH (l : List Int) (n : Int) (hb : Byt l) : Fun 16 [.c (.ptr 0 0), iE n] (kF [(0, some (77, .ds [D.sl (dI .u8 l) (List.length l)]))]) 1 (iV (((kB l n) : Nat) : Int)) (kF [(0, some (77, .ds [D.sl (dI .u8 (kA l n)) (List.length (kA l n))]))]) 1 := by
  refine Fun.mk (n := 34) Try.func16 rfl rfl (Nat.le_of_ble_eq_true rfl) ?_
  intro cx hcx
  refine kI [.no] True [(0, rV 0 0), (1, iV n)] [(0, some (77, .ds [db l (List.length l)]))] 1 trivial ?_
  refine AW.seq ?_
  by_cases hx1 : ((((List.length l) : Nat) : Int) = 0)
  · refine zr (kJ 5 [.b true, .no, .no]) [0, 1, 15] [0] (((List.length l : Int) = 0)) [(0, rV 0 0), (1, iV n), (15, bV true)] [(0, some (77, .ds [db l (List.length l)]))] 1 zo ?_
    refine zt ?_
    refine kI [.no] True [(4, iV 0)] [(0, some (77, .ds [db l (List.length l)]))] 1 trivial ?_
    refine AW.ret ?_
    exact kC (.inr rfl) [] (P := (((kB l n : Int) : Int) = 0) ∧ (([db (kA l n) (List.length (kA l n))] : List D) = [db l (List.length l)])) zk ⟨(by first | rfl | exact cN zo | exact gI hb zo | (rw [aW (by omega)]) | (rw [cO (by omega), List.length_drop])), (by first | rw [aW (by omega)] | rw [cO (by omega), List.length_drop])⟩
  · by_cases hx2 : (n ≤ 1)
    · refine zr (kJ 5 [.b false, .no, .no, .b true, .no]) [0, 1, 15] [0] ((¬ ((List.length l : Int) = 0)) ∧ ((n ≤ 1))) [(0, rV 0 0), (1, iV n), (15, bV true)] [(0, some (77, .ds [db l (List.length l)]))] 1 ⟨zo, zo⟩ ?_
      refine zt ?_
      refine kI [.no] True [(4, iV 0)] [(0, some (77, .ds [db l (List.length l)]))] 1 trivial ?_
      refine AW.ret ?_
      exact kC (.inr rfl) [] (P := (((kB l n : Int) : Int) = 0) ∧ (([db (kA l n) (List.length (kA l n))] : List D) = [db l (List.length l)])) zk ⟨(by first | rfl | exact cN zo | exact gI hb zo | (rw [aW (by omega)]) | (rw [cO (by omega), List.length_drop])), (by first | rw [aW (by omega)] | rw [cO (by omega), List.length_drop])⟩
    · refine zr (kJ 5 [.b false, .no, .no, .b false, .no]) [0, 1, 15] [0] ((¬ ((List.length l : Int) = 0)) ∧ (¬ (n ≤ 1))) [(0, rV 0 0), (1, iV n), (15, bV false)] [(0, some (77, .ds [db l (List.length l)]))] 1 ⟨zo, zo⟩ ?_
      refine yC ?_
      have hx3 : 0 ≤ (List.getD l 0 0) ∧ (List.getD l 0 0) ≤ 255 := hb.at 0 zo
      refine kI (kJ 4 [.n 0, .d (D.lit (.int .u8 (List.getD l 0 0))), .w, .no]) ((kN 0) ∧ ((0 : Nat) < (List.length l)) ∧ ((List.drop 0 (dI .u8 l))[0]? = some (D.lit (.int .u8 (List.getD l 0 0)))) ∧ (qJ (List.getD l 0 0))) [(0, rV 0 0), (1, iV n), (5, iV (List.getD l 0 0))] [(0, some (77, .ds [db l (List.length l)]))] 1 ⟨rfl, zo, (qW _ _ _ (by first | omega | (simp only [u2, qM, List.length_append, List.length_cons, List.length_nil, List.length_take, List.length_drop, List.length_replicate, List.length_set, List.length_map, List.length_reverse, Nat.mul_one] <;> omega) | rfl)), ⟨by omega, by omega⟩⟩ ?_
      refine kI (kJ 5 [.sls 1 (List.length l) ((List.length l) - 1) (dI .u8 (List.drop 1 l)), .no, .no, .no]) ((kN 1) ∧ ((List.length l) = (List.length l)) ∧ ((1 : Nat) ≤ (List.length l)) ∧ ((List.length l) ≤ (List.length l)) ∧ ((List.length l) - 1 = ((List.length l) - 1)) ∧ (List.take (((List.length l) - 1) * 1) (List.drop (1 * 1) (dI .u8 l)) = (dI .u8 (List.drop 1 l)))) [(1, iV n), (5, iV (List.getD l 0 0))] [(0, some (77, .ds [db (List.drop 1 l) ((List.length l) - 1)]))] 1 ⟨rfl, rfl, zo, zo, zo, (by first | rfl | with_reducible assumption | exact qT _ _ _ | exact dF _ _ _ | (simp only [yO, uA, qT, Nat.mul_one, Nat.zero_mul, List.drop_zero, List.nil_append, List.append_nil]; done) | (simp only [yO, uA, qT, Nat.mul_one, Nat.zero_mul, List.drop_zero, List.nil_append, List.append_nil]; rfl) | (rw [List.take_of_length_le (by simp only [u2, qM, List.length_drop, List.length_replicate, Nat.mul_one] <;> omega)]; first | rfl | (simp only [uA, Nat.mul_one, Nat.zero_mul, List.drop_zero]; done) | (simp only [uA, Nat.mul_one, Nat.zero_mul, List.drop_zero]; rfl)))⟩ ?_
      refine k8 [.no, .no, .ps, .no] (((0 : Int) ≤ ((List.getD l 0 0) : Int)) ∧ ((0 : Int) < (n : Int))) [(4, iV ((List.getD l 0 0) % n))] ⟨zo, zo⟩ ?_
      refine AW.ret ?_
      exact kC (.inr rfl) [] (P := (((kB l n : Int) : Int) = ((List.getD l 0 0) % n)) ∧ (([db (kA l n) (List.length (kA l n))] : List D) = [db (List.drop 1 l) ((List.length l) - 1)])) zk ⟨(by first | rfl | exact cN zo | exact gI hb zo | (rw [aW (by omega)]) | (rw [cO (by omega), List.length_drop])), (by first | rw [aW (by omega)] | rw [cO (by omega), List.length_drop])⟩
end Go.Proofs.Ytdbjebdomdnbkaa
namespace Go.Proofs.Ytdbjebdomdnbkaa
open Go.ChangeShapes Go.WideShapes Go.ChangeAt Go.RowKit
set_option linter.unusedVariables false
set_option linter.unusedSimpArgs false
/-! chapter 10: boxes out of dice -/
set_option maxHeartbeats 4000000
set_option maxRecDepth 100000
def l5 : List (List Int) := [[3], [1, 2], [1, 2, 3, 4, 5, 6], [2, 1], [1, 2, 7, 8], [4], [1, 3]]
theorem u5o : MsW l5 := fun l h => by
 have h1 : ∀ l ∈ l5, List.length l ≤ 6 := by decide
 have := h1 l h; omega
def uT (l : List Int) : List Int := List.getD l5 (kB l 7) []
def qY (l : List Int) : Nat → List Int
 | 0 => l
 | i + 1 => kA (qY l i) 2
def pM (sp l : List Int) : Nat → List Int
 | 0 => []
 | i + 1 => if kB (qY l i) 2 = 1 then pM sp l i ++ [List.getD sp (i * 2) 0, List.getD sp (i * 2 + 1) 0] else pM sp l i
theorem vB {l : List Int} (h : Byt l) : ∀ i, Byt (qY l i)
 | 0 => h
 | i + 1 => kE _ (vB h i)
theorem u4p {sp l : List Int} {i : Nat} {o : List Int} (h : pM sp l i = o) (h1 : kB (qY l i) 2 = 1) : pM sp l (i + 1) = o ++ [List.getD sp (i * 2) 0, List.getD sp (i * 2 + 1) 0] := by
 subst h; exact if_pos h1
theorem u4q {sp l : List Int} {i : Nat} {o : List Int} (h : pM sp l i = o) (h1 : ¬ kB (qY l i) 2 = 1) : pM sp l (i + 1) = o := by
 subst h; exact if_neg h1
def v4 (sp l : List Int) (n : Nat) : List Int := if pM sp l n = [] then [List.getD sp (kB (qY l n) (n : Int) * 2) 0, List.getD sp (kB (qY l n) (n : Int) * 2 + 1) 0] else pM sp l n
def yI (sp l : List Int) (n : Nat) : List Int := if pM sp l n = [] then kA (qY l n) (n : Int) else qY l n
def vW (sp l : List Int) (n : Nat) : Nat := (v4 sp l n).length / 2
theorem v9 {sp l : List Int} {n : Nat} (h : Byt l) : Byt (yI sp l n) := by unfold yI; split; exact kE _ (vB h n); exact vB h n
theorem u7h {sp l o : List Int} {n k i : Nat} (h : pM sp l i = o) (hi : i = n) (hl : o.length = k * 2) (hk : k = 0) : v4 sp l n = o ++ [List.getD sp (kB (qY l i) (n : Int) * 2) 0, List.getD sp (kB (qY l i) (n : Int) * 2 + 1) 0] ∧ yI sp l n = kA (qY l i) (n : Int) ∧ vW sp l n = k + 1 := by
 subst hi; subst hk
 have h2 : o = [] := List.eq_nil_of_length_eq_zero (by omega)
 have h0 : pM sp l i = [] := by rw [h, h2]
 have h1 : v4 sp l i = [List.getD sp (kB (qY l i) (i : Int) * 2) 0, List.getD sp (kB (qY l i) (i : Int) * 2 + 1) 0] := if_pos h0
 refine ⟨by rw [h1, h2]; rfl, if_pos h0, ?_⟩
 unfold vW; rw [h1, List.length_cons, List.length_cons, List.length_nil]
theorem u7g {sp l o : List Int} {n k i : Nat} (h : pM sp l i = o) (hi : i = n) (hl : o.length = k * 2) (hk : 1 ≤ k) : v4 sp l n = o ∧ yI sp l n = qY l i ∧ vW sp l n = k := by
 subst hi
 have h0 : ¬ pM sp l i = [] := fun e => by rw [h] at e; rw [e] at hl; have : (0 : Nat) = k * 2 := hl; omega
 have h1 : v4 sp l i = o := by unfold v4; rw [if_neg h0, h]
 refine ⟨h1, if_neg h0, ?_⟩
 unfold vW; rw [h1, hl]; omega
theorem rE (l : List Int) : List.length (uT l) ≤ 6 := by
 have h1 : ∀ l ∈ l5, List.length l ≤ 6 := by decide
 unfold uT
 rw [List.getD_eq_getElem?_getD]
 cases e : l5[kB l 7]? with
 | none => exact Nat.zero_le _
 | some x => exact h1 x (List.mem_of_getElem? e)
theorem k7w {l : List Int} (h : Byt l) : 1 ≤ List.length (uT l) ∧ List.length (uT l) ≤ 6 := by
 refine ⟨?_, rE l⟩
 have h1 : ∀ x ∈ l5, 1 ≤ List.length x := by decide
 have h2 := kO l 7 h
 have h3 : kB l 7 < l5.length := by show _ < 7; omega
 unfold uT
 rw [List.getD_eq_getElem?_getD, List.getElem?_eq_getElem h3]
 exact h1 _ (List.getElem_mem h3)
theorem vL {p : Prop} (h : p := by first | omega | (simp only [kU, kT, qM, List.length_append, List.length_cons, List.length_nil, List.length_take, List.length_drop, List.length_replicate, List.length_set, List.length_map, List.length_reverse, Nat.mul_one] <;> omega) | rfl) : p := h
theorem u38   : Fun 85 [] (kF []) 0 (qP (kY l5) 7) (kF []) 0 := by
 refine Fun.mk (n := 9) Try.func85 rfl rfl (Nat.le_of_ble_eq_true rfl) ?_
 intro cx hcx
 refine kI [.no] True [] [] 0 trivial ?_
 refine kI [(.fz (.no)), (.fz (.no)), (.fz (.no)), (.fz (.no)), (.fz (.no)), (.fz (.no)), (.fz (.no)), .no, .no] ((([iD 3] : List D).length = 1 * 1) ∧ (([iD 1, iD 2] : List D).length = 2 * 1) ∧ (([iD 1, iD 2, iD 3, iD 4, iD 5, iD 6] : List D).length = 6 * 1) ∧ (([iD 2, iD 1] : List D).length = 2 * 1) ∧ (([iD 1, iD 2, iD 7, iD 8] : List D).length = 4 * 1) ∧ (([iD 4] : List D).length = 1 * 1) ∧ (([iD 1, iD 3] : List D).length = 2 * 1)) [(0, oV 7 0 7 1)] [(7, some (49, .ds [D.sl [iD 3] 1, D.sl [iD 1, iD 2] 2, D.sl [iD 1, iD 2, iD 3, iD 4, iD 5, iD 6] 6, D.sl [iD 2, iD 1] 2, D.sl [iD 1, iD 2, iD 7, iD 8] 4, D.sl [iD 4] 1, D.sl [iD 1, iD 3] 2]))] 8 ⟨vL, vL, vL, vL, vL, vL, vL⟩ ?_
 refine AW.freeze 7 (l' := [(0, qP [D.sl [iD 3] 1, D.sl [iD 1, iD 2] 2, D.sl [iD 1, iD 2, iD 3, iD 4, iD 5, iD 6] 6, D.sl [iD 2, iD 1] 2, D.sl [iD 1, iD 2, iD 7, iD 8] 4, D.sl [iD 4] 1, D.sl [iD 1, iD 3] 2] 7)]) (g' := []) rfl (FzS.cons rfl (.e (.c (@FzC.own 7 ([D.sl [iD 3] 1, D.sl [iD 1, iD 2] 2, D.sl [iD 1, iD 2, iD 3, iD 4, iD 5, iD 6] 6, D.sl [iD 2, iD 1] 2, D.sl [iD 1, iD 2, iD 7, iD 8] 4, D.sl [iD 4] 1, D.sl [iD 1, iD 3] 2] : List D) 0 (7 : Nat) 1 true ([D.sl [iD 3] 1, D.sl [iD 1, iD 2] 2, D.sl [iD 1, iD 2, iD 3, iD 4, iD 5, iD 6] 6, D.sl [iD 2, iD 1] 2, D.sl [iD 1, iD 2, iD 7, iD 8] 4, D.sl [iD 4] 1, D.sl [iD 1, iD 3] 2] : List D) (by rw [List.drop_zero, Nat.mul_one, List.take_of_length_le (by first | omega | (simp only [kU, kT, qM, List.length_append, List.length_cons, List.length_nil, List.length_take, List.length_drop, List.length_replicate, List.length_set, List.length_map, List.length_reverse, Nat.mul_one] <;> omega))]) vL))) FzS.nil) FzG.nil ?_
 refine AW.ret ?_
 exact kC (.inr rfl) [] (P := (((kY l5) : List D) = [D.sl [iD 3] 1, D.sl [iD 1, iD 2] 2, D.sl [iD 1, iD 2, iD 3, iD 4, iD 5, iD 6] 6, D.sl [iD 2, iD 1] 2, D.sl [iD 1, iD 2, iD 7, iD 8] 4, D.sl [iD 4] 1, D.sl [iD 1, iD 3] 2]) ∧ (kP 7)) zk ⟨(by first | rfl | decide), rfl⟩
theorem u6u (l : List Int) (hb : Byt l) : Fun 73 [.c (.ptr 0 0)] (kF [(0, some (77, .ds [D.sl (dI .u8 l) (List.length l)]))]) 1 (sV .i64 (uT l) (List.length (uT l))) (kF [(0, some (77, .ds [D.sl (dI .u8 (kA l 7)) (List.length (kA l 7))]))]) 1 := by
 refine Fun.mk (n := 8) Try.func73 rfl rfl (Nat.le_of_ble_eq_true rfl) ?_
 intro cx hcx
 refine kI [.no] True [(0, rV 0 0)] [(0, some (77, .ds [db l (List.length l)]))] 1 trivial ?_
 have hx1 : ((((((kB l 7) : Nat) : Int) < 7) ∨ ((kB l 7) = 0)) ∧ ((kB l 7) ≤ 255)) := kO l (7 : Int) (kQ : Byt l)
 have hx2 : (Byt (kA l 7)) := kE (7 : Int) (kQ : Byt l)
 have hx3 : ((List.length (List.getD l5 (kB l 7) ([] : List Int))) ≤ 1000000) := MsW.at u5o _
 refine kI [.call [] (qP (kY l5) 7) [] 0 [] none, .no, .call [0] (uV (kB l 7)) [(0, some (77, .ds [db (kA l 7) (List.length (kA l 7))]))] 1 [] none, .n (kB l 7), .d (dl (List.getD l5 (kB l 7) ([] : List Int)) (List.length (List.getD l5 (kB l 7) ([] : List Int)))), .no] ((_) ∧ (_) ∧ (kN (kB l 7 : Int)) ∧ ((kB l 7) < 7) ∧ ((List.drop (kB l 7) (kY l5))[0]? = some (dl (List.getD l5 (kB l 7) ([] : List Int)) (List.length (List.getD l5 (kB l 7) ([] : List Int)))))) [(2, sV .i64 (List.getD l5 (kB l 7) ([] : List Int)) (List.length (List.getD l5 (kB l 7) ([] : List Int))))] [(0, some (77, .ds [db (kA l 7) (List.length (kA l 7))]))] 1 ⟨(u38), (qH l 7 (kQ : Byt l)), rfl, zo, (cE _ _ (by show _ < 7; omega))⟩ ?_
 refine AW.ret ?_
 exact kC (.inr rfl) [] (P := (((dI .i64 (uT l)) : List D) = (dI .i64 (List.getD l5 (kB l 7) ([] : List Int)))) ∧ (((List.length (uT l)) : Nat) = (List.length (List.getD l5 (kB l 7) ([] : List Int)))) ∧ (kZ [db (kA l 7) (List.length (kA l 7))])) zk ⟨(by first | rfl | decide), (by first | omega | rfl | assumption | (simp; done) | (simp; omega)), rfl⟩
abbrev cA (l : List Int) (i : Nat) : BC := .ds [D.sl (dI .u8 (qY l i)) (List.length (qY l i))]
abbrev iK (l : List Int) (i : Nat) : BC := .ds [D.sl (dI .u8 (kA (qY l i) 2)) (List.length (kA (qY l i) 2))]
theorem u10 (sp : List Int) (n : Nat) (l : List Int) (hl : List.length sp = n * 2) (h1 : 1 ≤ n) (h2 : n ≤ 1000) (hb : Byt l) : Fun 72 [.c (.ptr 0 0), .c (.d (D.sl (dI .i64 sp) n))] (kF [(0, some (77, .ds [D.sl (dI .u8 l) (List.length l)]))]) 1 (.e (.agg [.d (D.sl (dI .i64 (dR (v4 sp l n) (vW sp l n))) (vC (v4 sp l n) (vW sp l n)))])) (kF [(0, some (77, .ds [D.sl (dI .u8 (yI sp l n)) (List.length (yI sp l n))]))]) 1 := by
 refine Fun.mk (n := 43) Try.func72 rfl rfl (Nat.le_of_ble_eq_true rfl) ?_
 intro cx hcx
 refine kI [.no] True [(0, rV 0 0), (1, sV .i64 sp n), (4, rV 1 0)] [(0, some (77, .ds [db l (List.length l)])), (1, some (44, .ds [qF]))] 2 trivial ?_
 refine k8 [.no] True [(0, rV 0 0), (1, sV .i64 sp n), (4, rV 1 0), (5, nV)] trivial ?_
 refine AW.seq ?_
 refine k8 [.no, .no, .no] True [(0, rV 0 0), (1, sV .i64 sp n), (4, rV 1 0), (5, nV), (10, sV .i64 sp n), (11, uV n), (12, iV 0)] trivial ?_
 refine AW.block ?_
 refine AW.adoptS 5 2 84 rfl ?_
 refine kX 1 hcx (fun (x : {x : Nat × Nat × List Int // match x with | (i, k, o) => (i ≤ n ∧ k ≤ i) ∧ (pM sp l i = o) ∧ (List.length o = k * 2)}) => match x with | ⟨(i, k, o), _⟩ => (⟨[(0, rV 0 0), (1, sV .i64 sp n), (4, rV 1 0), (5, oV 3 0 k 2), (10, sV .i64 sp n), (11, uV n), (12, uV i)], [(0, some (77, (cA l i))), (1, some (44, .ds [qF])), (3, some (84, .ds (dI .i64 o)))], 4⟩ : ES)) (fun x => match x with | ⟨(i, k, o), _⟩ => n - i) ⟨((0 : Nat), (0 : Nat), (([] : List Int) : List Int)), ⟨(by first | omega | assumption | simp), rfl, rfl⟩⟩ [(3, 2)] (P := (kP 0) ∧ (kZ (dI .i64 sp)) ∧ (kP n) ∧ (kP 0) ∧ (kP 0) ∧ (kP 0) ∧ (kZ (dI .i64 sp)) ∧ (kP n) ∧ (kN (n : Int)) ∧ (kN 0) ∧ (([db (qY l 0) (List.length (qY l 0))] : List D) = [db l (List.length l)]) ∧ (kZ [qF]) ∧ (((dI .i64 ([] : List Int)) : List D) = ([] : List D))) zk ⟨rfl, rfl, rfl, rfl, rfl, rfl, rfl, rfl, rfl, rfl, (by first | rfl | with_reducible assumption), rfl, (by first | rfl | with_reducible assumption)⟩ ?_
 rintro ⟨⟨i, k, o⟩, hinv0⟩
 obtain ⟨hi, hS, ho⟩ : (i ≤ n ∧ k ≤ i) ∧ (pM sp l i = o) ∧ (List.length o = k * 2) := hinv0
 refine qU (l := [(0, rV 0 0), (1, sV .i64 sp n), (4, rV 1 0), (5, oV 3 0 k 2), (10, sV .i64 sp n), (11, uV n), (12, uV i)]) (g := [(0, some (77, (cA l i))), (1, some (44, .ds [qF])), (3, some (84, .ds (dI .i64 o)))]) (nx := 4) rfl rfl rfl ?_
 by_cases hx1 : (((i : Nat) : Int) < ((n : Nat) : Int))
 ·refine kI [.b true] (((i : Int) < (n : Int))) [(0, rV 0 0), (1, sV .i64 sp n), (4, rV 1 0), (5, oV 3 0 k 2), (10, sV .i64 sp n), (11, uV n), (12, uV i), (13, bV true)] [(0, some (77, (cA l i))), (1, some (44, .ds [qF])), (3, some (84, .ds (dI .i64 o)))] 4 zo ?_
  refine AW.seq ?_
  refine vD ?_
  refine AW.seq ?_
  refine AW.block ?_
  refine kI [.n i, .ds [iD (List.getD sp (i * 2) 0), iD (List.getD sp ((i * 2) + 1) 0)], .no, .no] ((kN (i : Int)) ∧ (i < n) ∧ (List.take 2 (List.drop (i * 2) (dI .i64 sp)) = [iD (List.getD sp (i * 2) 0), iD (List.getD sp ((i * 2) + 1) 0)]) ∧ (([iD (List.getD sp (i * 2) 0), iD (List.getD sp ((i * 2) + 1) 0)] : List D).length = 2)) [(0, rV 0 0), (1, sV .i64 sp n), (4, rV 1 0), (5, oV 3 0 k 2), (7, rV 4 0), (10, sV .i64 sp n), (11, uV n), (12, uV i)] [(0, some (77, (cA l i))), (1, some (44, .ds [qF])), (3, some (84, .ds (dI .i64 o))), (4, some (84, .ds [iD (List.getD sp (i * 2) 0), iD (List.getD sp ((i * 2) + 1) 0)]))] 5 ⟨rfl, zo, (dG .i64 sp (i * 2) 2 vL), rfl⟩ ?_
  by_cases hx4 : ((((kB (qY l i) 2) : Nat) : Int) = 1)
  ·have hx5 : ((((((kB (qY l i) 2) : Nat) : Int) < 2) ∨ ((kB (qY l i) 2) = 0)) ∧ ((kB (qY l i) 2) ≤ 255)) := kO (qY l i) (2 : Int) ((vB (kQ : Byt l) _))
   have hx6 : (Byt (kA (qY l i) 2)) := kE (2 : Int) ((vB (kQ : Byt l) _))
   refine kI [.no, .call [0] (uV (kB (qY l i) 2)) [(0, some (77, (iK l i)))] 1 [] none, .b true] ((_) ∧ (((kB (qY l i) 2 : Int) = 1))) [(0, rV 0 0), (1, sV .i64 sp n), (4, rV 1 0), (5, oV 3 0 k 2), (7, rV 4 0), (10, sV .i64 sp n), (11, uV n), (12, uV i), (18, bV true)] [(0, some (77, (iK l i))), (1, some (44, .ds [qF])), (3, some (84, .ds (dI .i64 o))), (4, some (84, .ds [iD (List.getD sp (i * 2) 0), iD (List.getD sp ((i * 2) + 1) 0)]))] 5 ⟨(qH (qY l i) 2 (vB (kQ : Byt l) _)), zo⟩ ?_
   refine zt ?_
   refine v7 [.no, .no, .no, .ap none (k + 1) (dI .i64 (o ++ ([(List.getD sp (i * 2) 0), (List.getD sp ((i * 2) + 1) 0)] : List Int))), .no] (([iD (List.getD sp (i * 2) 0), iD (List.getD sp ((i * 2) + 1) 0)].length = 1 * 2) ∧ (((dI .i64 o) : List D).length = k * 2) ∧ ((k + 1) * 16 ≤ 140737488355328) ∧ (k + 1 = (k + 1)) ∧ (((dI .i64 o) : List D) ++ [iD (List.getD sp (i * 2) 0), iD (List.getD sp ((i * 2) + 1) 0)] = (dI .i64 (o ++ ([(List.getD sp (i * 2) 0), (List.getD sp ((i * 2) + 1) 0)] : List Int))))) [(0, rV 0 0), (1, sV .i64 sp n), (4, rV 1 0), (5, oV 6 0 (k + 1) 2), (10, sV .i64 sp n), (11, uV n), (12, uV i)] [(0, some (77, (iK l i))), (1, some (44, .ds [qF])), (6, some (84, .ds (dI .i64 (o ++ ([(List.getD sp (i * 2) 0), (List.getD sp ((i * 2) + 1) 0)] : List Int)))))] 7 ⟨vL, vL, zo, zo, (qT .i64 o ([(List.getD sp (i * 2) 0), (List.getD sp ((i * 2) + 1) 0)] : List Int))⟩ ?_
   refine yD [.w, .no] (qJ ((i : Int) + 1)) [(0, rV 0 0), (1, sV .i64 sp n), (4, rV 1 0), (5, oV 6 0 (k + 1) 2), (10, sV .i64 sp n), (11, uV n), (12, iV (↑i + 1))] ⟨by omega, by omega⟩ ?_
   exact qE ⟨(((i + 1) : Nat), ((k + 1) : Nat), ((o ++ ([(List.getD sp (i * 2) 0), (List.getD sp ((i * 2) + 1) 0)] : List Int)) : List Int)), ⟨(by first | omega | assumption | simp), (by first | exact u4p hS zo | exact u4q hS zo), (by first | assumption | (simp only [kU, kT, List.length_append, List.length_cons, List.length_nil] <;> omega))⟩⟩ [(3, 6)] (P := (kP 0) ∧ (kZ (dI .i64 sp)) ∧ (kP n) ∧ (kP 0) ∧ (kP 0) ∧ (kP (k + 1)) ∧ (kZ (dI .i64 sp)) ∧ (kP n) ∧ (kN (n : Int)) ∧ (((((i + 1) : Nat) : Int) : Int) = ((i : Int) + 1)) ∧ (([db (qY l (i + 1)) (List.length (qY l (i + 1)))] : List D) = [db (kA (qY l i) 2) (List.length (kA (qY l i) 2))]) ∧ (kZ [qF]) ∧ (kZ (dI .i64 (o ++ ([(List.getD sp (i * 2) 0), (List.getD sp ((i * 2) + 1) 0)] : List Int))))) zk ⟨rfl, rfl, rfl, rfl, rfl, rfl, rfl, rfl, rfl, (by first | rfl | omega | assumption | (simp; done) | (simp; omega)), (by first | rfl | with_reducible assumption), rfl, rfl⟩ (show n - (i + 1) < n - i from (by first | omega | (show _ < _; simp; omega)))
  ·have hx7 : ((((((kB (qY l i) 2) : Nat) : Int) < 2) ∨ ((kB (qY l i) 2) = 0)) ∧ ((kB (qY l i) 2) ≤ 255)) := kO (qY l i) (2 : Int) ((vB (kQ : Byt l) _))
   have hx8 : (Byt (kA (qY l i) 2)) := kE (2 : Int) ((vB (kQ : Byt l) _))
   refine kI [.no, .call [0] (uV (kB (qY l i) 2)) [(0, some (77, (iK l i)))] 1 [] none, .b false] ((_) ∧ (¬ ((kB (qY l i) 2 : Int) = 1))) [(0, rV 0 0), (1, sV .i64 sp n), (4, rV 1 0), (5, oV 3 0 k 2), (7, rV 4 0), (10, sV .i64 sp n), (11, uV n), (12, uV i), (18, bV false)] [(0, some (77, (iK l i))), (1, some (44, .ds [qF])), (3, some (84, .ds (dI .i64 o))), (4, some (84, .ds [iD (List.getD sp (i * 2) 0), iD (List.getD sp ((i * 2) + 1) 0)]))] 5 ⟨(qH (qY l i) 2 (vB (kQ : Byt l) _)), zo⟩ ?_
   refine yC ?_
   refine v7 [.w, .no] (qJ ((i : Int) + 1)) [(0, rV 0 0), (1, sV .i64 sp n), (4, rV 1 0), (5, oV 3 0 k 2), (10, sV .i64 sp n), (11, uV n), (12, iV (↑i + 1))] [(0, some (77, (iK l i))), (1, some (44, .ds [qF])), (3, some (84, .ds (dI .i64 o)))] 5 ⟨by omega, by omega⟩ ?_
   exact qE ⟨(((i + 1) : Nat), (k : Nat), (o : List Int)), ⟨(by first | omega | assumption | simp), (by first | exact u4p hS zo | exact u4q hS zo), (by first | assumption | (simp only [kU, kT, List.length_append, List.length_cons, List.length_nil] <;> omega))⟩⟩ [] (P := (kP 0) ∧ (kZ (dI .i64 sp)) ∧ (kP n) ∧ (kP 0) ∧ (kP 0) ∧ (kP k) ∧ (kZ (dI .i64 sp)) ∧ (kP n) ∧ (kN (n : Int)) ∧ (((((i + 1) : Nat) : Int) : Int) = ((i : Int) + 1)) ∧ (([db (qY l (i + 1)) (List.length (qY l (i + 1)))] : List D) = [db (kA (qY l i) 2) (List.length (kA (qY l i) 2))]) ∧ (kZ [qF]) ∧ (kZ (dI .i64 o))) zk ⟨rfl, rfl, rfl, rfl, rfl, rfl, rfl, rfl, rfl, (by first | rfl | omega | assumption | (simp; done) | (simp; omega)), (by first | rfl | with_reducible assumption), rfl, rfl⟩ (show n - (i + 1) < n - i from (by first | omega | (show _ < _; simp; omega)))
 ·refine kI [.b false] (¬ ((i : Int) < (n : Int))) [(0, rV 0 0), (1, sV .i64 sp n), (4, rV 1 0), (5, oV 3 0 k 2), (10, sV .i64 sp n), (11, uV n), (12, uV i), (13, bV false)] [(0, some (77, (cA l i))), (1, some (44, .ds [qF])), (3, some (84, .ds (dI .i64 o)))] 4 zo ?_
  refine AW.seq ?_
  refine zf ?_
  refine AW.exit ?_
  refine AW.seq ?_
  by_cases hx9 : (((k : Nat) : Int) = 0)
  ·refine kI [.no, .no, .b true] (((k : Int) = 0)) [(0, rV 0 0), (1, sV .i64 sp n), (4, rV 1 0), (5, oV 3 0 k 2), (26, bV true)] [(0, some (77, (cA l i))), (1, some (44, .ds [qF])), (3, some (84, .ds (dI .i64 o)))] 4 zo ?_
   refine zt ?_
   have hx10 : ((((((kB (qY l i) ((n : Nat) : Int)) : Nat) : Int) < ((n : Nat) : Int)) ∨ ((kB (qY l i) ((n : Nat) : Int)) = 0)) ∧ ((kB (qY l i) ((n : Nat) : Int)) ≤ 255)) := kO (qY l i) ((n : Nat) : Int) ((vB (kQ : Byt l) _))
   have hx11 : (Byt (kA (qY l i) ((n : Nat) : Int))) := kE ((n : Nat) : Int) ((vB (kQ : Byt l) _))
   refine v7 (kJ 5 [.call [0] (uV (kB (qY l i) (n : Int))) [(0, some (77, .ds [db (kA (qY l i) (n : Int)) (List.length (kA (qY l i) (n : Int)))]))] 1 [] none, .n (kB (qY l i) (n : Int)), .ds [iD (List.getD sp ((kB (qY l i) (n : Int)) * 2) 0), iD (List.getD sp (((kB (qY l i) (n : Int)) * 2) + 1) 0)], .no, .ap none (k + 1) (dI .i64 (o ++ ([(List.getD sp ((kB (qY l i) (n : Int)) * 2) 0), (List.getD sp (((kB (qY l i) (n : Int)) * 2) + 1) 0)] : List Int))), .no]) ((_) ∧ (kN (((kB (qY l i) (n : Int)) : Nat) : Int)) ∧ ((kB (qY l i) (n : Int)) < n) ∧ (List.take 2 (List.drop ((kB (qY l i) (n : Int)) * 2) (dI .i64 sp)) = [iD (List.getD sp ((kB (qY l i) (n : Int)) * 2) 0), iD (List.getD sp (((kB (qY l i) (n : Int)) * 2) + 1) 0)]) ∧ (([iD (List.getD sp ((kB (qY l i) (n : Int)) * 2) 0), iD (List.getD sp (((kB (qY l i) (n : Int)) * 2) + 1) 0)] : List D).length = 2) ∧ ([iD (List.getD sp ((kB (qY l i) (n : Int)) * 2) 0), iD (List.getD sp (((kB (qY l i) (n : Int)) * 2) + 1) 0)].length = 1 * 2) ∧ (((dI .i64 o) : List D).length = k * 2) ∧ ((k + 1) * 16 ≤ 140737488355328) ∧ (k + 1 = (k + 1)) ∧ (((dI .i64 o) : List D) ++ [iD (List.getD sp ((kB (qY l i) (n : Int)) * 2) 0), iD (List.getD sp (((kB (qY l i) (n : Int)) * 2) + 1) 0)] = (dI .i64 (o ++ ([(List.getD sp ((kB (qY l i) (n : Int)) * 2) 0), (List.getD sp (((kB (qY l i) (n : Int)) * 2) + 1) 0)] : List Int))))) [(4, rV 1 0), (5, oV 5 0 (k + 1) 2)] [(0, some (77, .ds [db (kA (qY l i) ↑n) (List.length (kA (qY l i) ↑n))])), (1, some (44, .ds [qF])), (5, some (84, .ds (dI .i64 (o ++ ([(List.getD sp ((kB (qY l i) ↑n) * 2) 0), (List.getD sp (((kB (qY l i) ↑n) * 2) + 1) 0)] : List Int)))))] 6 ⟨(qH (qY l i) (n : Int) (vB (kQ : Byt l) _)), rfl, zo, (dG .i64 sp ((kB (qY l i) (n : Int)) * 2) 2 vL), rfl, vL, vL, zo, zo, (qT .i64 o ([(List.getD sp ((kB (qY l i) (n : Int)) * 2) 0), (List.getD sp (((kB (qY l i) (n : Int)) * 2) + 1) 0)] : List Int))⟩ ?_
   refine AW.freeze 5 (l' := [(4, rV 1 0), (5, sV .i64 (o ++ ([(List.getD sp ((kB (qY l i) (n : Int)) * 2) 0), (List.getD sp (((kB (qY l i) (n : Int)) * 2) + 1) 0)] : List Int)) (k + 1))]) (g' := [(0, some (77, .ds [db (kA (qY l i) (n : Int)) (List.length (kA (qY l i) (n : Int)))])), (1, some (44, .ds [qF]))]) rfl (FzS.cons rfl (.same _) (FzS.cons rfl (.e (.c (@FzC.own 5 ((dI .i64 (o ++ ([(List.getD sp ((kB (qY l i) (n : Int)) * 2) 0), (List.getD sp (((kB (qY l i) (n : Int)) * 2) + 1) 0)] : List Int))) : List D) 0 (k + 1) 2 true ((dI .i64 (o ++ ([(List.getD sp ((kB (qY l i) (n : Int)) * 2) 0), (List.getD sp (((kB (qY l i) (n : Int)) * 2) + 1) 0)] : List Int))) : List D) (by rw [List.drop_zero, List.take_of_length_le (by first | omega | (simp only [kU, kT, qM, List.length_append, List.length_cons, List.length_nil, List.length_take, List.length_drop, List.length_replicate, List.length_set, List.length_map, List.length_reverse, Nat.mul_one] <;> omega))]) vL))) FzS.nil)) (uP rfl rfl (uP rfl rfl FzG.nil)) ?_
   have hx12 : ((List.length (dR (o ++ ([(List.getD sp ((kB (qY l i) ((n : Nat) : Int)) * 2) 0), (List.getD sp (((kB (qY l i) ((n : Nat) : Int)) * 2) + 1) 0)] : List Int)) (k + 1))) = ((vC (o ++ ([(List.getD sp ((kB (qY l i) ((n : Nat) : Int)) * 2) 0), (List.getD sp (((kB (qY l i) ((n : Nat) : Int)) * 2) + 1) 0)] : List Int)) (k + 1)) * 2)) := gL (o ++ ([(List.getD sp ((kB (qY l i) ((n : Nat) : Int)) * 2) 0), (List.getD sp (((kB (qY l i) ((n : Nat) : Int)) * 2) + 1) 0)] : List Int)) (k + 1)
   have hx13 : ((((0 : Int) ≤ (nB (o ++ ([(List.getD sp ((kB (qY l i) ((n : Nat) : Int)) * 2) 0), (List.getD sp (((kB (qY l i) ((n : Nat) : Int)) * 2) + 1) 0)] : List Int)) (k + 1))) ∧ ((nB (o ++ ([(List.getD sp ((kB (qY l i) ((n : Nat) : Int)) * 2) 0), (List.getD sp (((kB (qY l i) ((n : Nat) : Int)) * 2) + 1) 0)] : List Int)) (k + 1)) ≤ 3)) ∧ ((vC (o ++ ([(List.getD sp ((kB (qY l i) ((n : Nat) : Int)) * 2) 0), (List.getD sp (((kB (qY l i) ((n : Nat) : Int)) * 2) + 1) 0)] : List Int)) (k + 1)) ≤ 64)) := l6 (o ++ ([(List.getD sp ((kB (qY l i) ((n : Nat) : Int)) * 2) 0), (List.getD sp (((kB (qY l i) ((n : Nat) : Int)) * 2) + 1) 0)] : List Int)) (k + 1)
   refine kI (.no :: .call [] (.tup [.agg [.d (dl (dR (o ++ ([(List.getD sp ((kB (qY l i) (n : Int)) * 2) 0), (List.getD sp (((kB (qY l i) (n : Int)) * 2) + 1) 0)] : List Int)) (k + 1)) (vC (o ++ ([(List.getD sp ((kB (qY l i) (n : Int)) * 2) 0), (List.getD sp (((kB (qY l i) (n : Int)) * 2) + 1) 0)] : List Int)) (k + 1)))], iE (nB (o ++ ([(List.getD sp ((kB (qY l i) (n : Int)) * 2) 0), (List.getD sp (((kB (qY l i) (n : Int)) * 2) + 1) 0)] : List Int)) (k + 1))]) [] 0 [] none :: kJ 6 []) _ [(4, rV 1 0), (8, rV 6 0)] [(0, some (77, .ds [db (kA (qY l i) ↑n) (List.length (kA (qY l i) ↑n))])), (1, some (44, .ds [qF])), (6, some (44, .ds [dl (dR (o ++ ([(List.getD sp ((kB (qY l i) ↑n) * 2) 0), (List.getD sp (((kB (qY l i) ↑n) * 2) + 1) 0)] : List Int)) (k + 1)) (vC (o ++ ([(List.getD sp ((kB (qY l i) ↑n) * 2) 0), (List.getD sp (((kB (qY l i) ↑n) * 2) + 1) 0)] : List Int)) (k + 1))]))] 7 (k10 (o ++ ([(List.getD sp ((kB (qY l i) (n : Int)) * 2) 0), (List.getD sp (((kB (qY l i) (n : Int)) * 2) + 1) 0)] : List Int)) (k + 1) (by first | omega | with_reducible assumption | (simp only [kU, kT, List.length_append, List.length_cons, List.length_nil, List.length_take, List.length_drop, List.length_replicate, List.length_set] <;> omega) | rfl | assumption) zo) ?_
   refine kI [.no, .no] True [(4, rV 1 0)] [(0, some (77, .ds [db (kA (qY l i) ↑n) (List.length (kA (qY l i) ↑n))])), (1, some (44, .ds [dl (dR (o ++ ([(List.getD sp ((kB (qY l i) ↑n) * 2) 0), (List.getD sp (((kB (qY l i) ↑n) * 2) + 1) 0)] : List Int)) (k + 1)) (vC (o ++ ([(List.getD sp ((kB (qY l i) ↑n) * 2) 0), (List.getD sp (((kB (qY l i) ↑n) * 2) + 1) 0)] : List Int)) (k + 1))]))] 7 trivial ?_
   obtain ⟨hz1, hz2, hz3⟩ := u7h hS (show i = n by omega) ho zo
   refine AW.ret ?_
   exact kC (.inr rfl) [] (P := (((dI .i64 (dR (v4 sp l n) (vW sp l n))) : List D) = (dI .i64 (dR (o ++ ([(List.getD sp ((kB (qY l i) (n : Int)) * 2) 0), (List.getD sp (((kB (qY l i) (n : Int)) * 2) + 1) 0)] : List Int)) (k + 1)))) ∧ (((vC (v4 sp l n) (vW sp l n)) : Nat) = (vC (o ++ ([(List.getD sp ((kB (qY l i) (n : Int)) * 2) 0), (List.getD sp (((kB (qY l i) (n : Int)) * 2) + 1) 0)] : List Int)) (k + 1))) ∧ (([db (yI sp l n) (List.length (yI sp l n))] : List D) = [db (kA (qY l i) (n : Int)) (List.length (kA (qY l i) (n : Int)))])) zk ⟨(by first | rfl | (rw [hz1, hz3]; done) | (rw [hz1, hz3]; rfl) | (rw [hz2]; done) | (rw [hz2]; rfl)), (by first | rfl | (rw [hz1, hz3]; done) | (rw [hz2]; done) | omega), (by first | rfl | (rw [hz1, hz3]; done) | (rw [hz1, hz3]; rfl) | (rw [hz2]; done) | (rw [hz2]; rfl))⟩
  ·refine kI [.no, .no, .b false] (¬ ((k : Int) = 0)) [(0, rV 0 0), (1, sV .i64 sp n), (4, rV 1 0), (5, oV 3 0 k 2), (26, bV false)] [(0, some (77, (cA l i))), (1, some (44, .ds [qF])), (3, some (84, .ds (dI .i64 o)))] 4 zo ?_
   refine yC ?_
   refine AW.freeze 3 (l' := [(0, rV 0 0), (1, sV .i64 sp n), (4, rV 1 0), (5, sV .i64 o k), (26, bV false)]) (g' := [(0, some (77, (cA l i))), (1, some (44, .ds [qF]))]) rfl (FzS.cons rfl (.same _) (FzS.cons rfl (.same _) (FzS.cons rfl (.same _) (FzS.cons rfl (.e (.c (@FzC.own 3 ((dI .i64 o) : List D) 0 k 2 true ((dI .i64 o) : List D) (by rw [List.drop_zero, List.take_of_length_le (by first | omega | (simp only [kU, kT, qM, List.length_append, List.length_cons, List.length_nil, List.length_take, List.length_drop, List.length_replicate, List.length_set, List.length_map, List.length_reverse, Nat.mul_one] <;> omega))]) vL))) (FzS.cons rfl (.same _) FzS.nil))))) (uP rfl rfl (uP rfl rfl FzG.nil)) ?_
   have hx14 : ((List.length (dR o k)) = ((vC o k) * 2)) := gL o k
   have hx15 : ((((0 : Int) ≤ (nB o k)) ∧ ((nB o k) ≤ 3)) ∧ ((vC o k) ≤ 64)) := l6 o k
   refine kI (.no :: .call [] (.tup [.agg [.d (dl (dR o k) (vC o k))], iE (nB o k)]) [] 0 [] none :: kJ 6 []) _ [(4, rV 1 0), (8, rV 4 0)] [(0, some (77, (cA l i))), (1, some (44, .ds [qF])), (4, some (44, .ds [dl (dR o k) (vC o k)]))] 5 (k10 o k zo zo) ?_
   refine kI [.no, .no] True [(4, rV 1 0)] [(0, some (77, (cA l i))), (1, some (44, .ds [dl (dR o k) (vC o k)]))] 5 trivial ?_
   obtain ⟨hz1, hz2, hz3⟩ := u7g hS (show i = n by omega) ho zo
   refine AW.ret ?_
   exact kC (.inr rfl) [] (P := (((dI .i64 (dR (v4 sp l n) (vW sp l n))) : List D) = (dI .i64 (dR o k))) ∧ (((vC (v4 sp l n) (vW sp l n)) : Nat) = (vC o k)) ∧ (([db (yI sp l n) (List.length (yI sp l n))] : List D) = [db (qY l i) (List.length (qY l i))])) zk ⟨(by first | rfl | (rw [hz1, hz3]; done) | (rw [hz1, hz3]; rfl) | (rw [hz2]; done) | (rw [hz2]; rfl)), (by first | rfl | (rw [hz1, hz3]; done) | (rw [hz2]; done) | omega), (by first | rfl | (rw [hz1, hz3]; done) | (rw [hz1, hz3]; rfl) | (rw [hz2]; done) | (rw [hz2]; rfl))⟩
end Go.Proofs.Ytdbjebdomdnbkaa
