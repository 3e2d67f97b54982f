/- Merged texts. -/
import Derived.Test.YtalbpleglapihaaZLBy
import Derived.Test.YtalbpleglapihaaZL10D
namespace Go.Proofs.Ytalbpleglapihaa
open Go.ChangeShapes Go.WideShapes Go.ChangeAt Go.RowKit
set_option linter.unusedVariables false
set_option linter.unusedSimpArgs false
set_option maxHeartbeats 4000000
set_option maxRecDepth 100000
def kB (l : List Int) (n : Int) : Nat := if l.length = 0 ∨ n ≤ 1 then 0 else (List.getD l 0 0 % n).toNat
def kA (l : List Int) (n : Int) : List Int := if l.length = 0 ∨ n ≤ 1 then l else List.drop 1 l
theorem aV {l : List Int} {n : Int} (h : l.length = 0 ∨ n ≤ 1) : ((kB l n : Nat) : Int) = 0 := by unfold kB; rw [if_pos h]; rfl
theorem vS {l : List Int} {n : Int} (h : l.length = 0 ∨ n ≤ 1) : kA l n = l := if_pos h
theorem eA {l : List Int} {n : Int} (hb : Byt l) (h : ¬ (l.length = 0 ∨ n ≤ 1)) : ((kB l n : Nat) : Int) = List.getD l 0 0 % n := by
  unfold kB; rw [if_neg h]; exact Int.toNat_of_nonneg (Int.emod_nonneg _ (by omega))
theorem aW {l : List Int} {n : Int} (h : ¬ (l.length = 0 ∨ n ≤ 1)) : kA l n = List.drop 1 l := if_neg h
theorem kF {l : List Int} (n : Int) (h : Byt l) : Byt (kA l n) := by
  unfold kA; split
  · exact h
  · exact h.drop 1
theorem kQ (l : List Int) (n : Int) (h : Byt l) : (((kB l n : Nat) : Int) < n ∨ kB l n = 0) ∧ kB l n ≤ 255 := by
  by_cases hn : l.length = 0 ∨ n ≤ 1
  · have := aV hn; omega
  · have e0 := eA h hn
    have h0 := Byt.at h 0 (by omega)
    have e3 := Int.emod_lt_of_pos (List.getD l 0 0) (b := n) (by omega)
    have e1 := Int.mul_ediv_add_emod (List.getD l 0 0) n
    have e2 : 0 ≤ n * (List.getD l 0 0 / n) := Int.mul_nonneg (by omega) (Int.ediv_nonneg h0.1 (by omega))
    omega
@[reducible] def aL (n : Nat) (s : List Int) : List Int := (List.take (min n 300) s)
theorem k8v (l : List Int) (n : Nat) (hn : List.length l = n) (hb : n ≤ 9223372036854775807) : Fun 13 [.c (.d (D.sl (dI .u8 l) n))] (kG []) 0 (rV 0 0) (kG [(0, some (66, .ds [D.sl (dI .u8 (aL n l)) (List.length (aL n l))]))]) 1 := by
  refine Fun.mk (n := 10) Try.func13 rfl rfl (Nat.le_of_ble_eq_true rfl) ?_
  intro cx hcx
  refine kK [.no] True [(0, sV .u8 l n)] [] 0 trivial ?_
  refine kK (kS 4 [.sls 0 (min n 300) (min n 300) (dI .u8 (aL n l)), .no, .no, .no]) ((kN 0) ∧ (((min (n : Int) 300) : Int) = (((min n 300) : Nat) : Int)) ∧ ((0 : Nat) ≤ (min n 300)) ∧ ((min n 300) ≤ n) ∧ ((min n 300) - 0 = (min n 300)) ∧ (List.take ((min n 300) * 1) (List.drop (0 * 1) (dI .u8 l)) = (dI .u8 (aL n l)))) [(2, rV 0 0)] [(0, some (66, .ds [db (aL n l) (min n 300)]))] 1 ⟨rfl, (by first | rfl | omega), zo, zo, zo, (by first | rfl | with_reducible assumption | exact qN _ _ _ | exact bP _ _ _ | (simp only [yP, uB, qN, Nat.mul_one, Nat.zero_mul, List.drop_zero, List.nil_append, List.append_nil]; done) | (simp only [yP, uB, qN, Nat.mul_one, Nat.zero_mul, List.drop_zero, List.nil_append, List.append_nil]; rfl) | (rw [List.take_of_length_le (by simp only [uR, qK, List.length_drop, List.length_replicate, Nat.mul_one] <;> omega)]; first | rfl | (simp only [uB, Nat.mul_one, Nat.zero_mul, List.drop_zero]; done) | (simp only [uB, Nat.mul_one, Nat.zero_mul, List.drop_zero]; rfl)))⟩ ?_
  refine AW.ret ?_
  exact kC (.inr rfl) [] (P := (kN 0) ∧ (([db (aL n l) (List.length (aL n l))] : List D) = [db (aL n l) (min n 300)])) zk ⟨rfl, (by have e9 : (aL n l).length = min n 300 := (by rw [List.length_take]; omega); rw [e9])⟩
theorem qW (l : List Int) (n : Int) (hb : Byt l) : Fun 22 [.c (.ptr 0 0), iE n] (kG [(0, some (66, .ds [D.sl (dI .u8 l) (List.length l)]))]) 1 (iV (((kB l n) : Nat) : Int)) (kG [(0, some (66, .ds [D.sl (dI .u8 (kA l n)) (List.length (kA l n))]))]) 1 := by
  refine Fun.mk (n := 34) Try.func22 rfl rfl (Nat.le_of_ble_eq_true rfl) ?_
  intro cx hcx
  refine kK [.no] True [(0, rV 0 0), (1, iV n)] [(0, some (66, .ds [db l (List.length l)]))] 1 trivial ?_
  refine AW.seq ?_
  by_cases hx1 : ((((List.length l) : Nat) : Int) = 0)
  · refine zr (kS 5 [.b true, .no, .no]) [0, 1, 15] [0] (((List.length l : Int) = 0)) [(0, rV 0 0), (1, iV n), (15, bV true)] [(0, some (66, .ds [db l (List.length l)]))] 1 zo ?_
    refine zt ?_
    refine kK [.no] True [(4, iV 0)] [(0, some (66, .ds [db l (List.length l)]))] 1 trivial ?_
    refine AW.ret ?_
    exact kC (.inr rfl) [] (P := (((kB l n : Int) : Int) = 0) ∧ (([db (kA l n) (List.length (kA l n))] : List D) = [db l (List.length l)])) zk ⟨(by first | rfl | exact aV zo | exact eA hb zo | (rw [vS (by omega)]) | (rw [aW (by omega), List.length_drop])), (by first | rw [vS (by omega)] | rw [aW (by omega), List.length_drop])⟩
  · by_cases hx2 : (n ≤ 1)
    · refine zr (kS 5 [.b false, .no, .no, .b true, .no]) [0, 1, 15] [0] ((¬ ((List.length l : Int) = 0)) ∧ ((n ≤ 1))) [(0, rV 0 0), (1, iV n), (15, bV true)] [(0, some (66, .ds [db l (List.length l)]))] 1 ⟨zo, zo⟩ ?_
      refine zt ?_
      refine kK [.no] True [(4, iV 0)] [(0, some (66, .ds [db l (List.length l)]))] 1 trivial ?_
      refine AW.ret ?_
      exact kC (.inr rfl) [] (P := (((kB l n : Int) : Int) = 0) ∧ (([db (kA l n) (List.length (kA l n))] : List D) = [db l (List.length l)])) zk ⟨(by first | rfl | exact aV zo | exact eA hb zo | (rw [vS (by omega)]) | (rw [aW (by omega), List.length_drop])), (by first | rw [vS (by omega)] | rw [aW (by omega), List.length_drop])⟩
    · refine zr (kS 5 [.b false, .no, .no, .b false, .no]) [0, 1, 15] [0] ((¬ ((List.length l : Int) = 0)) ∧ (¬ (n ≤ 1))) [(0, rV 0 0), (1, iV n), (15, bV false)] [(0, some (66, .ds [db l (List.length l)]))] 1 ⟨zo, zo⟩ ?_
      refine yM ?_
      have hx3 : 0 ≤ (List.getD l 0 0) ∧ (List.getD l 0 0) ≤ 255 := hb.at 0 zo
      refine kK (kS 4 [.n 0, .d (D.lit (.int .u8 (List.getD l 0 0))), .w, .no]) ((kM 0) ∧ ((0 : Nat) < (List.length l)) ∧ ((List.drop 0 (dI .u8 l))[0]? = some (D.lit (.int .u8 (List.getD l 0 0)))) ∧ (qL (List.getD l 0 0))) [(0, rV 0 0), (1, iV n), (5, iV (List.getD l 0 0))] [(0, some (66, .ds [db l (List.length l)]))] 1 ⟨rfl, zo, (qQ _ _ _ (by first | omega | (simp only [uR, qK, List.length_append, List.length_cons, List.length_nil, List.length_take, List.length_drop, List.length_replicate, List.length_set, List.length_map, List.length_reverse, Nat.mul_one] <;> omega) | rfl)), ⟨by omega, by omega⟩⟩ ?_
      refine kK (kS 5 [.sls 1 (List.length l) ((List.length l) - 1) (dI .u8 (List.drop 1 l)), .no, .no, .no]) ((kM 1) ∧ ((List.length l) = (List.length l)) ∧ ((1 : Nat) ≤ (List.length l)) ∧ ((List.length l) ≤ (List.length l)) ∧ ((List.length l) - 1 = ((List.length l) - 1)) ∧ (List.take (((List.length l) - 1) * 1) (List.drop (1 * 1) (dI .u8 l)) = (dI .u8 (List.drop 1 l)))) [(1, iV n), (5, iV (List.getD l 0 0))] [(0, some (66, .ds [db (List.drop 1 l) ((List.length l) - 1)]))] 1 ⟨rfl, rfl, zo, zo, zo, (by first | rfl | with_reducible assumption | exact qN _ _ _ | exact bP _ _ _ | (simp only [yP, uB, qN, Nat.mul_one, Nat.zero_mul, List.drop_zero, List.nil_append, List.append_nil]; done) | (simp only [yP, uB, qN, Nat.mul_one, Nat.zero_mul, List.drop_zero, List.nil_append, List.append_nil]; rfl) | (rw [List.take_of_length_le (by simp only [uR, qK, List.length_drop, List.length_replicate, Nat.mul_one] <;> omega)]; first | rfl | (simp only [uB, Nat.mul_one, Nat.zero_mul, List.drop_zero]; done) | (simp only [uB, Nat.mul_one, Nat.zero_mul, List.drop_zero]; rfl)))⟩ ?_
      refine kX [.no, .no, .ps, .no] (((0 : Int) ≤ ((List.getD l 0 0) : Int)) ∧ ((0 : Int) < (n : Int))) [(4, iV ((List.getD l 0 0) % n))] ⟨zo, zo⟩ ?_
      refine AW.ret ?_
      exact kC (.inr rfl) [] (P := (((kB l n : Int) : Int) = ((List.getD l 0 0) % n)) ∧ (([db (kA l n) (List.length (kA l n))] : List D) = [db (List.drop 1 l) ((List.length l) - 1)])) zk ⟨(by first | rfl | exact aV zo | exact eA hb zo | (rw [vS (by omega)]) | (rw [aW (by omega), List.length_drop])), (by first | rw [vS (by omega)] | rw [aW (by omega), List.length_drop])⟩
end Go.Proofs.Ytalbpleglapihaa
namespace Go.Proofs.Ytalbpleglapihaa
open Go.ChangeShapes Go.WideShapes Go.ChangeAt Go.RowKit
set_option linter.unusedVariables false
set_option linter.unusedSimpArgs false
/-! chapter 10: boxes out of dice -/
set_option maxHeartbeats 4000000
set_option maxRecDepth 100000
def iU : List (List Int) := [[3], [1, 2], [1, 2, 3, 4, 5, 6], [2, 1], [1, 2, 7, 8], [4], [1, 3]]
theorem u37 : MsW iU := fun l h => by
 have h1 : ∀ l ∈ iU, List.length l ≤ 6 := by decide
 have := h1 l h; omega
def uL (l : List Int) : List Int := List.getD iU (kB l 7) []
def qR (l : List Int) : Nat → List Int
 | 0 => l
 | i + 1 => kA (qR l i) 2
def mW (sp l : List Int) : Nat → List Int
 | 0 => []
 | i + 1 => if kB (qR l i) 2 = 1 then mW sp l i ++ [List.getD sp (i * 2) 0, List.getD sp (i * 2 + 1) 0] else mW sp l i
theorem yF {l : List Int} (h : Byt l) : ∀ i, Byt (qR l i)
 | 0 => h
 | i + 1 => kF _ (yF h i)
theorem u2a {sp l : List Int} {i : Nat} {o : List Int} (h : mW sp l i = o) (h1 : kB (qR l i) 2 = 1) : mW sp l (i + 1) = o ++ [List.getD sp (i * 2) 0, List.getD sp (i * 2 + 1) 0] := by
 subst h; exact if_pos h1
theorem u2b {sp l : List Int} {i : Nat} {o : List Int} (h : mW sp l i = o) (h1 : ¬ kB (qR l i) 2 = 1) : mW sp l (i + 1) = o := by
 subst h; exact if_neg h1
def y1 (sp l : List Int) (n : Nat) : List Int := if mW sp l n = [] then [List.getD sp (kB (qR l n) (n : Int) * 2) 0, List.getD sp (kB (qR l n) (n : Int) * 2 + 1) 0] else mW sp l n
def uZ (sp l : List Int) (n : Nat) : List Int := if mW sp l n = [] then kA (qR l n) (n : Int) else qR l n
def yY (sp l : List Int) (n : Nat) : Nat := (y1 sp l n).length / 2
theorem y8 {sp l : List Int} {n : Nat} (h : Byt l) : Byt (uZ sp l n) := by unfold uZ; split; exact kF _ (yF h n); exact yF h n
theorem u5f {sp l o : List Int} {n k i : Nat} (h : mW sp l i = o) (hi : i = n) (hl : o.length = k * 2) (hk : k = 0) : y1 sp l n = o ++ [List.getD sp (kB (qR l i) (n : Int) * 2) 0, List.getD sp (kB (qR l i) (n : Int) * 2 + 1) 0] ∧ uZ sp l n = kA (qR l i) (n : Int) ∧ yY sp l n = k + 1 := by
 subst hi; subst hk
 have h2 : o = [] := List.eq_nil_of_length_eq_zero (by omega)
 have h0 : mW sp l i = [] := by rw [h, h2]
 have h1 : y1 sp l i = [List.getD sp (kB (qR l i) (i : Int) * 2) 0, List.getD sp (kB (qR l i) (i : Int) * 2 + 1) 0] := if_pos h0
 refine ⟨by rw [h1, h2]; rfl, if_pos h0, ?_⟩
 unfold yY; rw [h1, List.length_cons, List.length_cons, List.length_nil]
theorem u5e {sp l o : List Int} {n k i : Nat} (h : mW sp l i = o) (hi : i = n) (hl : o.length = k * 2) (hk : 1 ≤ k) : y1 sp l n = o ∧ uZ sp l n = qR l i ∧ yY sp l n = k := by
 subst hi
 have h0 : ¬ mW sp l i = [] := fun e => by rw [h] at e; rw [e] at hl; have : (0 : Nat) = k * 2 := hl; omega
 have h1 : y1 sp l i = o := by unfold y1; rw [if_neg h0, h]
 refine ⟨h1, if_neg h0, ?_⟩
 unfold yY; rw [h1, hl]; omega
theorem nL (l : List Int) : List.length (uL l) ≤ 6 := by
 have h1 : ∀ l ∈ iU, List.length l ≤ 6 := by decide
 unfold uL
 rw [List.getD_eq_getElem?_getD]
 cases e : iU[kB l 7]? with
 | none => exact Nat.zero_le _
 | some x => exact h1 x (List.mem_of_getElem? e)
theorem k5z {l : List Int} (h : Byt l) : 1 ≤ List.length (uL l) ∧ List.length (uL l) ≤ 6 := by
 refine ⟨?_, nL l⟩
 have h1 : ∀ x ∈ iU, 1 ≤ List.length x := by decide
 have h2 := kQ l 7 h
 have h3 : kB l 7 < iU.length := by show _ < 7; omega
 unfold uL
 rw [List.getD_eq_getElem?_getD, List.getElem?_eq_getElem h3]
 exact h1 _ (List.getElem_mem h3)
theorem yR {p : Prop} (h : p := by first | omega | (simp only [kR, kO, qK, List.length_append, List.length_cons, List.length_nil, List.length_take, List.length_drop, List.length_replicate, List.length_set, List.length_map, List.length_reverse, Nat.mul_one] <;> omega) | rfl) : p := h
theorem u12   : Fun 72 [] (kG []) 0 (qX (k9 iU) 7) (kG []) 0 := by
 refine Fun.mk (n := 9) Try.func72 rfl rfl (Nat.le_of_ble_eq_true rfl) ?_
 intro cx hcx
 refine kK [.no] True [] [] 0 trivial ?_
 refine kK [(.fz (.no)), (.fz (.no)), (.fz (.no)), (.fz (.no)), (.fz (.no)), (.fz (.no)), (.fz (.no)), .no, .no] ((([iD 3] : List D).length = 1 * 1) ∧ (([iD 1, iD 2] : List D).length = 2 * 1) ∧ (([iD 1, iD 2, iD 3, iD 4, iD 5, iD 6] : List D).length = 6 * 1) ∧ (([iD 2, iD 1] : List D).length = 2 * 1) ∧ (([iD 1, iD 2, iD 7, iD 8] : List D).length = 4 * 1) ∧ (([iD 4] : List D).length = 1 * 1) ∧ (([iD 1, iD 3] : List D).length = 2 * 1)) [(0, oV 7 0 7 1)] [(7, some (63, .ds [D.sl [iD 3] 1, D.sl [iD 1, iD 2] 2, D.sl [iD 1, iD 2, iD 3, iD 4, iD 5, iD 6] 6, D.sl [iD 2, iD 1] 2, D.sl [iD 1, iD 2, iD 7, iD 8] 4, D.sl [iD 4] 1, D.sl [iD 1, iD 3] 2]))] 8 ⟨yR, yR, yR, yR, yR, yR, yR⟩ ?_
 refine AW.freeze 7 (l' := [(0, qX [D.sl [iD 3] 1, D.sl [iD 1, iD 2] 2, D.sl [iD 1, iD 2, iD 3, iD 4, iD 5, iD 6] 6, D.sl [iD 2, iD 1] 2, D.sl [iD 1, iD 2, iD 7, iD 8] 4, D.sl [iD 4] 1, D.sl [iD 1, iD 3] 2] 7)]) (g' := []) rfl (FzS.cons rfl (.e (.c (@FzC.own 7 ([D.sl [iD 3] 1, D.sl [iD 1, iD 2] 2, D.sl [iD 1, iD 2, iD 3, iD 4, iD 5, iD 6] 6, D.sl [iD 2, iD 1] 2, D.sl [iD 1, iD 2, iD 7, iD 8] 4, D.sl [iD 4] 1, D.sl [iD 1, iD 3] 2] : List D) 0 (7 : Nat) 1 true ([D.sl [iD 3] 1, D.sl [iD 1, iD 2] 2, D.sl [iD 1, iD 2, iD 3, iD 4, iD 5, iD 6] 6, D.sl [iD 2, iD 1] 2, D.sl [iD 1, iD 2, iD 7, iD 8] 4, D.sl [iD 4] 1, D.sl [iD 1, iD 3] 2] : List D) (by rw [List.drop_zero, Nat.mul_one, List.take_of_length_le (by first | omega | (simp only [kR, kO, qK, List.length_append, List.length_cons, List.length_nil, List.length_take, List.length_drop, List.length_replicate, List.length_set, List.length_map, List.length_reverse, Nat.mul_one] <;> omega))]) yR))) FzS.nil) FzG.nil ?_
 refine AW.ret ?_
 exact kC (.inr rfl) [] (P := (((k9 iU) : List D) = [D.sl [iD 3] 1, D.sl [iD 1, iD 2] 2, D.sl [iD 1, iD 2, iD 3, iD 4, iD 5, iD 6] 6, D.sl [iD 2, iD 1] 2, D.sl [iD 1, iD 2, iD 7, iD 8] 4, D.sl [iD 4] 1, D.sl [iD 1, iD 3] 2]) ∧ (kN 7)) zk ⟨(by first | rfl | decide), rfl⟩
theorem u4a (l : List Int) (hb : Byt l) : Fun 63 [.c (.ptr 0 0)] (kG [(0, some (66, .ds [D.sl (dI .u8 l) (List.length l)]))]) 1 (sV .i64 (uL l) (List.length (uL l))) (kG [(0, some (66, .ds [D.sl (dI .u8 (kA l 7)) (List.length (kA l 7))]))]) 1 := by
 refine Fun.mk (n := 8) Try.func63 rfl rfl (Nat.le_of_ble_eq_true rfl) ?_
 intro cx hcx
 refine kK [.no] True [(0, rV 0 0)] [(0, some (66, .ds [db l (List.length l)]))] 1 trivial ?_
 have hx1 : ((((((kB l 7) : Nat) : Int) < 7) ∨ ((kB l 7) = 0)) ∧ ((kB l 7) ≤ 255)) := kQ l (7 : Int) (kP : Byt l)
 have hx2 : (Byt (kA l 7)) := kF (7 : Int) (kP : Byt l)
 have hx3 : ((List.length (List.getD iU (kB l 7) ([] : List Int))) ≤ 1000000) := MsW.at u37 _
 refine kK [.call [] (qX (k9 iU) 7) [] 0 [] none, .no, .call [0] (uV (kB l 7)) [(0, some (66, .ds [db (kA l 7) (List.length (kA l 7))]))] 1 [] none, .n (kB l 7), .d (dl (List.getD iU (kB l 7) ([] : List Int)) (List.length (List.getD iU (kB l 7) ([] : List Int)))), .no] ((_) ∧ (_) ∧ (kM (kB l 7 : Int)) ∧ ((kB l 7) < 7) ∧ ((List.drop (kB l 7) (k9 iU))[0]? = some (dl (List.getD iU (kB l 7) ([] : List Int)) (List.length (List.getD iU (kB l 7) ([] : List Int)))))) [(2, sV .i64 (List.getD iU (kB l 7) ([] : List Int)) (List.length (List.getD iU (kB l 7) ([] : List Int))))] [(0, some (66, .ds [db (kA l 7) (List.length (kA l 7))]))] 1 ⟨(u12), (qW l 7 (kP : Byt l)), rfl, zo, (aN _ _ (by show _ < 7; omega))⟩ ?_
 refine AW.ret ?_
 exact kC (.inr rfl) [] (P := (((dI .i64 (uL l)) : List D) = (dI .i64 (List.getD iU (kB l 7) ([] : List Int)))) ∧ (((List.length (uL l)) : Nat) = (List.length (List.getD iU (kB l 7) ([] : List Int)))) ∧ (k8 [db (kA l 7) (List.length (kA l 7))])) zk ⟨(by first | rfl | decide), (by first | omega | rfl | assumption | (simp; done) | (simp; omega)), rfl⟩
abbrev aI (l : List Int) (i : Nat) : BC := .ds [D.sl (dI .u8 (qR l i)) (List.length (qR l i))]
abbrev fE (l : List Int) (i : Nat) : BC := .ds [D.sl (dI .u8 (kA (qR l i) 2)) (List.length (kA (qR l i) 2))]
theorem k8w (sp : List Int) (n : Nat) (l : List Int) (hl : List.length sp = n * 2) (h1 : 1 ≤ n) (h2 : n ≤ 1000) (hb : Byt l) : Fun 62 [.c (.ptr 0 0), .c (.d (D.sl (dI .i64 sp) n))] (kG [(0, some (66, .ds [D.sl (dI .u8 l) (List.length l)]))]) 1 (.e (.agg [.d (D.sl (dI .i64 (bU (y1 sp l n) (yY sp l n))) (yG (y1 sp l n) (yY sp l n)))])) (kG [(0, some (66, .ds [D.sl (dI .u8 (uZ sp l n)) (List.length (uZ sp l n))]))]) 1 := by
 refine Fun.mk (n := 43) Try.func62 rfl rfl (Nat.le_of_ble_eq_true rfl) ?_
 intro cx hcx
 refine kK [.no] True [(0, rV 0 0), (1, sV .i64 sp n), (4, rV 1 0)] [(0, some (66, .ds [db l (List.length l)])), (1, some (75, .ds [qI]))] 2 trivial ?_
 refine kX [.no] True [(0, rV 0 0), (1, sV .i64 sp n), (4, rV 1 0), (5, nV)] trivial ?_
 refine AW.seq ?_
 refine kX [.no, .no, .no] True [(0, rV 0 0), (1, sV .i64 sp n), (4, rV 1 0), (5, nV), (10, sV .i64 sp n), (11, uV n), (12, iV 0)] trivial ?_
 refine AW.block ?_
 refine AW.adoptS 5 2 96 rfl ?_
 refine kW 1 hcx (fun (x : {x : Nat × Nat × List Int // match x with | (i, k, o) => (i ≤ n ∧ k ≤ i) ∧ (mW sp l i = o) ∧ (List.length o = k * 2)}) => match x with | ⟨(i, k, o), _⟩ => (⟨[(0, rV 0 0), (1, sV .i64 sp n), (4, rV 1 0), (5, oV 3 0 k 2), (10, sV .i64 sp n), (11, uV n), (12, uV i)], [(0, some (66, (aI l i))), (1, some (75, .ds [qI])), (3, some (96, .ds (dI .i64 o)))], 4⟩ : ES)) (fun x => match x with | ⟨(i, k, o), _⟩ => n - i) ⟨((0 : Nat), (0 : Nat), (([] : List Int) : List Int)), ⟨(by first | omega | assumption | simp), rfl, rfl⟩⟩ [(3, 2)] (P := (kN 0) ∧ (k8 (dI .i64 sp)) ∧ (kN n) ∧ (kN 0) ∧ (kN 0) ∧ (kN 0) ∧ (k8 (dI .i64 sp)) ∧ (kN n) ∧ (kM (n : Int)) ∧ (kM 0) ∧ (([db (qR l 0) (List.length (qR l 0))] : List D) = [db l (List.length l)]) ∧ (k8 [qI]) ∧ (((dI .i64 ([] : List Int)) : List D) = ([] : List D))) zk ⟨rfl, rfl, rfl, rfl, rfl, rfl, rfl, rfl, rfl, rfl, (by first | rfl | with_reducible assumption), rfl, (by first | rfl | with_reducible assumption)⟩ ?_
 rintro ⟨⟨i, k, o⟩, hinv0⟩
 obtain ⟨hi, hS, ho⟩ : (i ≤ n ∧ k ≤ i) ∧ (mW sp l i = o) ∧ (List.length o = k * 2) := hinv0
 refine uH (l := [(0, rV 0 0), (1, sV .i64 sp n), (4, rV 1 0), (5, oV 3 0 k 2), (10, sV .i64 sp n), (11, uV n), (12, uV i)]) (g := [(0, some (66, (aI l i))), (1, some (75, .ds [qI])), (3, some (96, .ds (dI .i64 o)))]) (nx := 4) rfl rfl rfl ?_
 by_cases hx1 : (((i : Nat) : Int) < ((n : Nat) : Int))
 ·refine kK [.b true] (((i : Int) < (n : Int))) [(0, rV 0 0), (1, sV .i64 sp n), (4, rV 1 0), (5, oV 3 0 k 2), (10, sV .i64 sp n), (11, uV n), (12, uV i), (13, bV true)] [(0, some (66, (aI l i))), (1, some (75, .ds [qI])), (3, some (96, .ds (dI .i64 o)))] 4 zo ?_
  refine AW.seq ?_
  refine vD ?_
  refine AW.seq ?_
  refine AW.block ?_
  refine kK [.n i, .ds [iD (List.getD sp (i * 2) 0), iD (List.getD sp ((i * 2) + 1) 0)], .no, .no] ((kM (i : Int)) ∧ (i < n) ∧ (List.take 2 (List.drop (i * 2) (dI .i64 sp)) = [iD (List.getD sp (i * 2) 0), iD (List.getD sp ((i * 2) + 1) 0)]) ∧ (([iD (List.getD sp (i * 2) 0), iD (List.getD sp ((i * 2) + 1) 0)] : List D).length = 2)) [(0, rV 0 0), (1, sV .i64 sp n), (4, rV 1 0), (5, oV 3 0 k 2), (7, rV 4 0), (10, sV .i64 sp n), (11, uV n), (12, uV i)] [(0, some (66, (aI l i))), (1, some (75, .ds [qI])), (3, some (96, .ds (dI .i64 o))), (4, some (96, .ds [iD (List.getD sp (i * 2) 0), iD (List.getD sp ((i * 2) + 1) 0)]))] 5 ⟨rfl, zo, (v7 .i64 sp (i * 2) 2 yR), rfl⟩ ?_
  by_cases hx4 : ((((kB (qR l i) 2) : Nat) : Int) = 1)
  ·have hx5 : ((((((kB (qR l i) 2) : Nat) : Int) < 2) ∨ ((kB (qR l i) 2) = 0)) ∧ ((kB (qR l i) 2) ≤ 255)) := kQ (qR l i) (2 : Int) ((yF (kP : Byt l) _))
   have hx6 : (Byt (kA (qR l i) 2)) := kF (2 : Int) ((yF (kP : Byt l) _))
   refine kK [.no, .call [0] (uV (kB (qR l i) 2)) [(0, some (66, (fE l i)))] 1 [] none, .b true] ((_) ∧ (((kB (qR l i) 2 : Int) = 1))) [(0, rV 0 0), (1, sV .i64 sp n), (4, rV 1 0), (5, oV 3 0 k 2), (7, rV 4 0), (10, sV .i64 sp n), (11, uV n), (12, uV i), (18, bV true)] [(0, some (66, (fE l i))), (1, some (75, .ds [qI])), (3, some (96, .ds (dI .i64 o))), (4, some (96, .ds [iD (List.getD sp (i * 2) 0), iD (List.getD sp ((i * 2) + 1) 0)]))] 5 ⟨(qW (qR l i) 2 (yF (kP : Byt l) _)), zo⟩ ?_
   refine zt ?_
   refine cB [.no, .no, .no, .ap none (k + 1) (dI .i64 (o ++ ([(List.getD sp (i * 2) 0), (List.getD sp ((i * 2) + 1) 0)] : List Int))), .no] (([iD (List.getD sp (i * 2) 0), iD (List.getD sp ((i * 2) + 1) 0)].length = 1 * 2) ∧ (((dI .i64 o) : List D).length = k * 2) ∧ ((k + 1) * 16 ≤ 140737488355328) ∧ (k + 1 = (k + 1)) ∧ (((dI .i64 o) : List D) ++ [iD (List.getD sp (i * 2) 0), iD (List.getD sp ((i * 2) + 1) 0)] = (dI .i64 (o ++ ([(List.getD sp (i * 2) 0), (List.getD sp ((i * 2) + 1) 0)] : List Int))))) [(0, rV 0 0), (1, sV .i64 sp n), (4, rV 1 0), (5, oV 6 0 (k + 1) 2), (10, sV .i64 sp n), (11, uV n), (12, uV i)] [(0, some (66, (fE l i))), (1, some (75, .ds [qI])), (6, some (96, .ds (dI .i64 (o ++ ([(List.getD sp (i * 2) 0), (List.getD sp ((i * 2) + 1) 0)] : List Int)))))] 7 ⟨yR, yR, zo, zo, (qN .i64 o ([(List.getD sp (i * 2) 0), (List.getD sp ((i * 2) + 1) 0)] : List Int))⟩ ?_
   refine yD [.w, .no] (qL ((i : Int) + 1)) [(0, rV 0 0), (1, sV .i64 sp n), (4, rV 1 0), (5, oV 6 0 (k + 1) 2), (10, sV .i64 sp n), (11, uV n), (12, iV (↑i + 1))] ⟨by omega, by omega⟩ ?_
   exact qS ⟨(((i + 1) : Nat), ((k + 1) : Nat), ((o ++ ([(List.getD sp (i * 2) 0), (List.getD sp ((i * 2) + 1) 0)] : List Int)) : List Int)), ⟨(by first | omega | assumption | simp), (by first | exact u2a hS zo | exact u2b hS zo), (by first | assumption | (simp only [kR, kO, List.length_append, List.length_cons, List.length_nil] <;> omega))⟩⟩ [(3, 6)] (P := (kN 0) ∧ (k8 (dI .i64 sp)) ∧ (kN n) ∧ (kN 0) ∧ (kN 0) ∧ (kN (k + 1)) ∧ (k8 (dI .i64 sp)) ∧ (kN n) ∧ (kM (n : Int)) ∧ (((((i + 1) : Nat) : Int) : Int) = ((i : Int) + 1)) ∧ (([db (qR l (i + 1)) (List.length (qR l (i + 1)))] : List D) = [db (kA (qR l i) 2) (List.length (kA (qR l i) 2))]) ∧ (k8 [qI]) ∧ (k8 (dI .i64 (o ++ ([(List.getD sp (i * 2) 0), (List.getD sp ((i * 2) + 1) 0)] : List Int))))) zk ⟨rfl, rfl, rfl, rfl, rfl, rfl, rfl, rfl, rfl, (by first | rfl | omega | assumption | (simp; done) | (simp; omega)), (by first | rfl | with_reducible assumption), rfl, rfl⟩ (show n - (i + 1) < n - i from (by first | omega | (show _ < _; simp; omega)))
  ·have hx7 : ((((((kB (qR l i) 2) : Nat) : Int) < 2) ∨ ((kB (qR l i) 2) = 0)) ∧ ((kB (qR l i) 2) ≤ 255)) := kQ (qR l i) (2 : Int) ((yF (kP : Byt l) _))
   have hx8 : (Byt (kA (qR l i) 2)) := kF (2 : Int) ((yF (kP : Byt l) _))
   refine kK [.no, .call [0] (uV (kB (qR l i) 2)) [(0, some (66, (fE l i)))] 1 [] none, .b false] ((_) ∧ (¬ ((kB (qR l i) 2 : Int) = 1))) [(0, rV 0 0), (1, sV .i64 sp n), (4, rV 1 0), (5, oV 3 0 k 2), (7, rV 4 0), (10, sV .i64 sp n), (11, uV n), (12, uV i), (18, bV false)] [(0, some (66, (fE l i))), (1, some (75, .ds [qI])), (3, some (96, .ds (dI .i64 o))), (4, some (96, .ds [iD (List.getD sp (i * 2) 0), iD (List.getD sp ((i * 2) + 1) 0)]))] 5 ⟨(qW (qR l i) 2 (yF (kP : Byt l) _)), zo⟩ ?_
   refine yM ?_
   refine cB [.w, .no] (qL ((i : Int) + 1)) [(0, rV 0 0), (1, sV .i64 sp n), (4, rV 1 0), (5, oV 3 0 k 2), (10, sV .i64 sp n), (11, uV n), (12, iV (↑i + 1))] [(0, some (66, (fE l i))), (1, some (75, .ds [qI])), (3, some (96, .ds (dI .i64 o)))] 5 ⟨by omega, by omega⟩ ?_
   exact qS ⟨(((i + 1) : Nat), (k : Nat), (o : List Int)), ⟨(by first | omega | assumption | simp), (by first | exact u2a hS zo | exact u2b hS zo), (by first | assumption | (simp only [kR, kO, List.length_append, List.length_cons, List.length_nil] <;> omega))⟩⟩ [] (P := (kN 0) ∧ (k8 (dI .i64 sp)) ∧ (kN n) ∧ (kN 0) ∧ (kN 0) ∧ (kN k) ∧ (k8 (dI .i64 sp)) ∧ (kN n) ∧ (kM (n : Int)) ∧ (((((i + 1) : Nat) : Int) : Int) = ((i : Int) + 1)) ∧ (([db (qR l (i + 1)) (List.length (qR l (i + 1)))] : List D) = [db (kA (qR l i) 2) (List.length (kA (qR l i) 2))]) ∧ (k8 [qI]) ∧ (k8 (dI .i64 o))) zk ⟨rfl, rfl, rfl, rfl, rfl, rfl, rfl, rfl, rfl, (by first | rfl | omega | assumption | (simp; done) | (simp; omega)), (by first | rfl | with_reducible assumption), rfl, rfl⟩ (show n - (i + 1) < n - i from (by first | omega | (show _ < _; simp; omega)))
 ·refine kK [.b false] (¬ ((i : Int) < (n : Int))) [(0, rV 0 0), (1, sV .i64 sp n), (4, rV 1 0), (5, oV 3 0 k 2), (10, sV .i64 sp n), (11, uV n), (12, uV i), (13, bV false)] [(0, some (66, (aI l i))), (1, some (75, .ds [qI])), (3, some (96, .ds (dI .i64 o)))] 4 zo ?_
  refine AW.seq ?_
  refine zf ?_
  refine AW.exit ?_
  refine AW.seq ?_
  by_cases hx9 : (((k : Nat) : Int) = 0)
  ·refine kK [.no, .no, .b true] (((k : Int) = 0)) [(0, rV 0 0), (1, sV .i64 sp n), (4, rV 1 0), (5, oV 3 0 k 2), (26, bV true)] [(0, some (66, (aI l i))), (1, some (75, .ds [qI])), (3, some (96, .ds (dI .i64 o)))] 4 zo ?_
   refine zt ?_
   have hx10 : ((((((kB (qR l i) ((n : Nat) : Int)) : Nat) : Int) < ((n : Nat) : Int)) ∨ ((kB (qR l i) ((n : Nat) : Int)) = 0)) ∧ ((kB (qR l i) ((n : Nat) : Int)) ≤ 255)) := kQ (qR l i) ((n : Nat) : Int) ((yF (kP : Byt l) _))
   have hx11 : (Byt (kA (qR l i) ((n : Nat) : Int))) := kF ((n : Nat) : Int) ((yF (kP : Byt l) _))
   refine cB (kS 5 [.call [0] (uV (kB (qR l i) (n : Int))) [(0, some (66, .ds [db (kA (qR l i) (n : Int)) (List.length (kA (qR l i) (n : Int)))]))] 1 [] none, .n (kB (qR l i) (n : Int)), .ds [iD (List.getD sp ((kB (qR l i) (n : Int)) * 2) 0), iD (List.getD sp (((kB (qR l i) (n : Int)) * 2) + 1) 0)], .no, .ap none (k + 1) (dI .i64 (o ++ ([(List.getD sp ((kB (qR l i) (n : Int)) * 2) 0), (List.getD sp (((kB (qR l i) (n : Int)) * 2) + 1) 0)] : List Int))), .no]) ((_) ∧ (kM (((kB (qR l i) (n : Int)) : Nat) : Int)) ∧ ((kB (qR l i) (n : Int)) < n) ∧ (List.take 2 (List.drop ((kB (qR l i) (n : Int)) * 2) (dI .i64 sp)) = [iD (List.getD sp ((kB (qR l i) (n : Int)) * 2) 0), iD (List.getD sp (((kB (qR l i) (n : Int)) * 2) + 1) 0)]) ∧ (([iD (List.getD sp ((kB (qR l i) (n : Int)) * 2) 0), iD (List.getD sp (((kB (qR l i) (n : Int)) * 2) + 1) 0)] : List D).length = 2) ∧ ([iD (List.getD sp ((kB (qR l i) (n : Int)) * 2) 0), iD (List.getD sp (((kB (qR l i) (n : Int)) * 2) + 1) 0)].length = 1 * 2) ∧ (((dI .i64 o) : List D).length = k * 2) ∧ ((k + 1) * 16 ≤ 140737488355328) ∧ (k + 1 = (k + 1)) ∧ (((dI .i64 o) : List D) ++ [iD (List.getD sp ((kB (qR l i) (n : Int)) * 2) 0), iD (List.getD sp (((kB (qR l i) (n : Int)) * 2) + 1) 0)] = (dI .i64 (o ++ ([(List.getD sp ((kB (qR l i) (n : Int)) * 2) 0), (List.getD sp (((kB (qR l i) (n : Int)) * 2) + 1) 0)] : List Int))))) [(4, rV 1 0), (5, oV 5 0 (k + 1) 2)] [(0, some (66, .ds [db (kA (qR l i) ↑n) (List.length (kA (qR l i) ↑n))])), (1, some (75, .ds [qI])), (5, some (96, .ds (dI .i64 (o ++ ([(List.getD sp ((kB (qR l i) ↑n) * 2) 0), (List.getD sp (((kB (qR l i) ↑n) * 2) + 1) 0)] : List Int)))))] 6 ⟨(qW (qR l i) (n : Int) (yF (kP : Byt l) _)), rfl, zo, (v7 .i64 sp ((kB (qR l i) (n : Int)) * 2) 2 yR), rfl, yR, yR, zo, zo, (qN .i64 o ([(List.getD sp ((kB (qR l i) (n : Int)) * 2) 0), (List.getD sp (((kB (qR l i) (n : Int)) * 2) + 1) 0)] : List Int))⟩ ?_
   refine AW.freeze 5 (l' := [(4, rV 1 0), (5, sV .i64 (o ++ ([(List.getD sp ((kB (qR l i) (n : Int)) * 2) 0), (List.getD sp (((kB (qR l i) (n : Int)) * 2) + 1) 0)] : List Int)) (k + 1))]) (g' := [(0, some (66, .ds [db (kA (qR l i) (n : Int)) (List.length (kA (qR l i) (n : Int)))])), (1, some (75, .ds [qI]))]) rfl (FzS.cons rfl (.same _) (FzS.cons rfl (.e (.c (@FzC.own 5 ((dI .i64 (o ++ ([(List.getD sp ((kB (qR l i) (n : Int)) * 2) 0), (List.getD sp (((kB (qR l i) (n : Int)) * 2) + 1) 0)] : List Int))) : List D) 0 (k + 1) 2 true ((dI .i64 (o ++ ([(List.getD sp ((kB (qR l i) (n : Int)) * 2) 0), (List.getD sp (((kB (qR l i) (n : Int)) * 2) + 1) 0)] : List Int))) : List D) (by rw [List.drop_zero, List.take_of_length_le (by first | omega | (simp only [kR, kO, qK, List.length_append, List.length_cons, List.length_nil, List.length_take, List.length_drop, List.length_replicate, List.length_set, List.length_map, List.length_reverse, Nat.mul_one] <;> omega))]) yR))) FzS.nil)) (uO rfl rfl (uO rfl rfl FzG.nil)) ?_
   have hx12 : ((List.length (bU (o ++ ([(List.getD sp ((kB (qR l i) ((n : Nat) : Int)) * 2) 0), (List.getD sp (((kB (qR l i) ((n : Nat) : Int)) * 2) + 1) 0)] : List Int)) (k + 1))) = ((yG (o ++ ([(List.getD sp ((kB (qR l i) ((n : Nat) : Int)) * 2) 0), (List.getD sp (((kB (qR l i) ((n : Nat) : Int)) * 2) + 1) 0)] : List Int)) (k + 1)) * 2)) := eC (o ++ ([(List.getD sp ((kB (qR l i) ((n : Nat) : Int)) * 2) 0), (List.getD sp (((kB (qR l i) ((n : Nat) : Int)) * 2) + 1) 0)] : List Int)) (k + 1)
   have hx13 : ((((0 : Int) ≤ (j4 (o ++ ([(List.getD sp ((kB (qR l i) ((n : Nat) : Int)) * 2) 0), (List.getD sp (((kB (qR l i) ((n : Nat) : Int)) * 2) + 1) 0)] : List Int)) (k + 1))) ∧ ((j4 (o ++ ([(List.getD sp ((kB (qR l i) ((n : Nat) : Int)) * 2) 0), (List.getD sp (((kB (qR l i) ((n : Nat) : Int)) * 2) + 1) 0)] : List Int)) (k + 1)) ≤ 3)) ∧ ((yG (o ++ ([(List.getD sp ((kB (qR l i) ((n : Nat) : Int)) * 2) 0), (List.getD sp (((kB (qR l i) ((n : Nat) : Int)) * 2) + 1) 0)] : List Int)) (k + 1)) ≤ 64)) := iW (o ++ ([(List.getD sp ((kB (qR l i) ((n : Nat) : Int)) * 2) 0), (List.getD sp (((kB (qR l i) ((n : Nat) : Int)) * 2) + 1) 0)] : List Int)) (k + 1)
   refine kK (.no :: .call [] (.tup [.agg [.d (dl (bU (o ++ ([(List.getD sp ((kB (qR l i) (n : Int)) * 2) 0), (List.getD sp (((kB (qR l i) (n : Int)) * 2) + 1) 0)] : List Int)) (k + 1)) (yG (o ++ ([(List.getD sp ((kB (qR l i) (n : Int)) * 2) 0), (List.getD sp (((kB (qR l i) (n : Int)) * 2) + 1) 0)] : List Int)) (k + 1)))], iE (j4 (o ++ ([(List.getD sp ((kB (qR l i) (n : Int)) * 2) 0), (List.getD sp (((kB (qR l i) (n : Int)) * 2) + 1) 0)] : List Int)) (k + 1))]) [] 0 [] none :: kS 6 []) _ [(4, rV 1 0), (8, rV 6 0)] [(0, some (66, .ds [db (kA (qR l i) ↑n) (List.length (kA (qR l i) ↑n))])), (1, some (75, .ds [qI])), (6, some (75, .ds [dl (bU (o ++ ([(List.getD sp ((kB (qR l i) ↑n) * 2) 0), (List.getD sp (((kB (qR l i) ↑n) * 2) + 1) 0)] : List Int)) (k + 1)) (yG (o ++ ([(List.getD sp ((kB (qR l i) ↑n) * 2) 0), (List.getD sp (((kB (qR l i) ↑n) * 2) + 1) 0)] : List Int)) (k + 1))]))] 7 (x5 (o ++ ([(List.getD sp ((kB (qR l i) (n : Int)) * 2) 0), (List.getD sp (((kB (qR l i) (n : Int)) * 2) + 1) 0)] : List Int)) (k + 1) (by first | omega | with_reducible assumption | (simp only [kR, kO, List.length_append, List.length_cons, List.length_nil, List.length_take, List.length_drop, List.length_replicate, List.length_set] <;> omega) | rfl | assumption) zo) ?_
   refine kK [.no, .no] True [(4, rV 1 0)] [(0, some (66, .ds [db (kA (qR l i) ↑n) (List.length (kA (qR l i) ↑n))])), (1, some (75, .ds [dl (bU (o ++ ([(List.getD sp ((kB (qR l i) ↑n) * 2) 0), (List.getD sp (((kB (qR l i) ↑n) * 2) + 1) 0)] : List Int)) (k + 1)) (yG (o ++ ([(List.getD sp ((kB (qR l i) ↑n) * 2) 0), (List.getD sp (((kB (qR l i) ↑n) * 2) + 1) 0)] : List Int)) (k + 1))]))] 7 trivial ?_
   obtain ⟨hz1, hz2, hz3⟩ := u5f hS (show i = n by omega) ho zo
   refine AW.ret ?_
   exact kC (.inr rfl) [] (P := (((dI .i64 (bU (y1 sp l n) (yY sp l n))) : List D) = (dI .i64 (bU (o ++ ([(List.getD sp ((kB (qR l i) (n : Int)) * 2) 0), (List.getD sp (((kB (qR l i) (n : Int)) * 2) + 1) 0)] : List Int)) (k + 1)))) ∧ (((yG (y1 sp l n) (yY sp l n)) : Nat) = (yG (o ++ ([(List.getD sp ((kB (qR l i) (n : Int)) * 2) 0), (List.getD sp (((kB (qR l i) (n : Int)) * 2) + 1) 0)] : List Int)) (k + 1))) ∧ (([db (uZ sp l n) (List.length (uZ sp l n))] : List D) = [db (kA (qR l i) (n : Int)) (List.length (kA (qR l i) (n : Int)))])) zk ⟨(by first | rfl | (rw [hz1, hz3]; done) | (rw [hz1, hz3]; rfl) | (rw [hz2]; done) | (rw [hz2]; rfl)), (by first | rfl | (rw [hz1, hz3]; done) | (rw [hz2]; done) | omega), (by first | rfl | (rw [hz1, hz3]; done) | (rw [hz1, hz3]; rfl) | (rw [hz2]; done) | (rw [hz2]; rfl))⟩
  ·refine kK [.no, .no, .b false] (¬ ((k : Int) = 0)) [(0, rV 0 0), (1, sV .i64 sp n), (4, rV 1 0), (5, oV 3 0 k 2), (26, bV false)] [(0, some (66, (aI l i))), (1, some (75, .ds [qI])), (3, some (96, .ds (dI .i64 o)))] 4 zo ?_
   refine yM ?_
   refine AW.freeze 3 (l' := [(0, rV 0 0), (1, sV .i64 sp n), (4, rV 1 0), (5, sV .i64 o k), (26, bV false)]) (g' := [(0, some (66, (aI l i))), (1, some (75, .ds [qI]))]) rfl (FzS.cons rfl (.same _) (FzS.cons rfl (.same _) (FzS.cons rfl (.same _) (FzS.cons rfl (.e (.c (@FzC.own 3 ((dI .i64 o) : List D) 0 k 2 true ((dI .i64 o) : List D) (by rw [List.drop_zero, List.take_of_length_le (by first | omega | (simp only [kR, kO, qK, List.length_append, List.length_cons, List.length_nil, List.length_take, List.length_drop, List.length_replicate, List.length_set, List.length_map, List.length_reverse, Nat.mul_one] <;> omega))]) yR))) (FzS.cons rfl (.same _) FzS.nil))))) (uO rfl rfl (uO rfl rfl FzG.nil)) ?_
   have hx14 : ((List.length (bU o k)) = ((yG o k) * 2)) := eC o k
   have hx15 : ((((0 : Int) ≤ (j4 o k)) ∧ ((j4 o k) ≤ 3)) ∧ ((yG o k) ≤ 64)) := iW o k
   refine kK (.no :: .call [] (.tup [.agg [.d (dl (bU o k) (yG o k))], iE (j4 o k)]) [] 0 [] none :: kS 6 []) _ [(4, rV 1 0), (8, rV 4 0)] [(0, some (66, (aI l i))), (1, some (75, .ds [qI])), (4, some (75, .ds [dl (bU o k) (yG o k)]))] 5 (x5 o k zo zo) ?_
   refine kK [.no, .no] True [(4, rV 1 0)] [(0, some (66, (aI l i))), (1, some (75, .ds [dl (bU o k) (yG o k)]))] 5 trivial ?_
   obtain ⟨hz1, hz2, hz3⟩ := u5e hS (show i = n by omega) ho zo
   refine AW.ret ?_
   exact kC (.inr rfl) [] (P := (((dI .i64 (bU (y1 sp l n) (yY sp l n))) : List D) = (dI .i64 (bU o k))) ∧ (((yG (y1 sp l n) (yY sp l n)) : Nat) = (yG o k)) ∧ (([db (uZ sp l n) (List.length (uZ sp l n))] : List D) = [db (qR l i) (List.length (qR l i))])) zk ⟨(by first | rfl | (rw [hz1, hz3]; done) | (rw [hz1, hz3]; rfl) | (rw [hz2]; done) | (rw [hz2]; rfl)), (by first | rfl | (rw [hz1, hz3]; done) | (rw [hz2]; done) | omega), (by first | rfl | (rw [hz1, hz3]; done) | (rw [hz1, hz3]; rfl) | (rw [hz2]; done) | (rw [hz2]; rfl))⟩
end Go.Proofs.Ytalbpleglapihaa
