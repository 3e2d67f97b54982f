/- Merged texts. -/
import Derived.Test.YtcfmjpnffembpaaGreatZLBy
import Derived.Test.YtcfmjpnffembpaaGreatZL10D
namespace Go.Proofs.YtcfmjpnffembpaaGreat
open Go.ChangeShapes Go.WideShapes Go.ChangeAt Go.RowKit
set_option linter.unusedVariables false
set_option linter.unusedSimpArgs false
set_option maxHeartbeats 4000000
set_option maxRecDepth 100000
def kA (l : List Int) (n : Int) : Nat := if l.length = 0 ∨ n ≤ 1 then 0 else (List.getD l 0 0 % n).toNat
def kC (l : List Int) (n : Int) : List Int := if l.length = 0 ∨ n ≤ 1 then l else List.drop 1 l
theorem dJ {l : List Int} {n : Int} (h : l.length = 0 ∨ n ≤ 1) : ((kA l n : Nat) : Int) = 0 := by unfold kA; rw [if_pos h]; rfl
theorem b7 {l : List Int} {n : Int} (h : l.length = 0 ∨ n ≤ 1) : kC l n = l := if_pos h
theorem iT {l : List Int} {n : Int} (hb : Byt l) (h : ¬ (l.length = 0 ∨ n ≤ 1)) : ((kA l n : Nat) : Int) = List.getD l 0 0 % n := by
  unfold kA; rw [if_neg h]; exact Int.toNat_of_nonneg (Int.emod_nonneg _ (by omega))
theorem dK {l : List Int} {n : Int} (h : ¬ (l.length = 0 ∨ n ≤ 1)) : kC l n = List.drop 1 l := if_neg h
theorem qK {l : List Int} (n : Int) (h : Byt l) : Byt (kC l n) := by
  unfold kC; split
  · exact h
  · exact h.drop 1
theorem uA (l : List Int) (n : Int) (h : Byt l) : (((kA l n : Nat) : Int) < n ∨ kA l n = 0) ∧ kA l n ≤ 255 := by
  by_cases hn : l.length = 0 ∨ n ≤ 1
  · have := dJ hn; omega
  · have e0 := iT h hn
    have h0 := Byt.at h 0 (by omega)
    have e3 := Int.emod_lt_of_pos (List.getD l 0 0) (b := n) (by omega)
    have e1 := Int.mul_ediv_add_emod (List.getD l 0 0) n
    have e2 : 0 ≤ n * (List.getD l 0 0 / n) := Int.mul_nonneg (by omega) (Int.ediv_nonneg h0.1 (by omega))
    omega
theorem k7u (l : List Int) (n : Nat) (hn : List.length l = n) (hb : n ≤ 9223372036854775807) : Fun 36 [.c (.d (D.sl (dI .u8 l) n))] (kK []) 0 (rV 0 0) (kK [(0, some (95, .ds [D.sl (dI .u8 (List.take (min n 300) l)) (List.length (List.take (min n 300) l))]))]) 1 := by
  refine Fun.mk (n := 10) Tryz.func36 rfl rfl (Nat.le_of_ble_eq_true rfl) ?_
  intro cx hcx
  refine kL [.no] True [(0, sV .u8 l n)] [] 0 trivial ?_
  refine kL (qA 4 [.sls 0 (min n 300) (min n 300) (dI .u8 (List.take (min n 300) l)), .no, .no, .no]) ((kH 0) ∧ (((min (n : Int) 300) : Int) = (((min n 300) : Nat) : Int)) ∧ ((0 : Nat) ≤ (min n 300)) ∧ ((min n 300) ≤ n) ∧ ((min n 300) - 0 = (min n 300)) ∧ (List.take ((min n 300) * 1) (List.drop (0 * 1) (dI .u8 l)) = (dI .u8 (List.take (min n 300) l)))) [(2, rV 0 0)] [(0, some (95, .ds [db (List.take (min n 300) l) (min n 300)]))] 1 ⟨rfl, (by first | rfl | omega), zo, zo, zo, (by first | rfl | with_reducible assumption | exact yF _ _ _ | exact k78 _ _ _ | (simp only [b5, v6, yF, Nat.mul_one, Nat.zero_mul, List.drop_zero, List.nil_append, List.append_nil]; done) | (simp only [b5, v6, yF, Nat.mul_one, Nat.zero_mul, List.drop_zero, List.nil_append, List.append_nil]; rfl) | (rw [List.take_of_length_le (by simp only [uK, qX, List.length_drop, List.length_replicate, Nat.mul_one] <;> omega)]; first | rfl | (simp only [v6, Nat.mul_one, Nat.zero_mul, List.drop_zero]; done) | (simp only [v6, Nat.mul_one, Nat.zero_mul, List.drop_zero]; rfl)))⟩ ?_
  refine AW.ret ?_
  exact kD (.inr rfl) [] (P := (kH 0) ∧ (([db (List.take (min n 300) l) (List.length (List.take (min n 300) l))] : List D) = [db (List.take (min n 300) l) (min n 300)])) zk ⟨rfl, (by have e9 : (List.take (min n 300) l).length = min n 300 := (by rw [List.length_take]; omega); rw [e9])⟩
theorem uQ (l : List Int) (n : Int) (hb : Byt l) : Fun 38 [.c (.ptr 0 0), iE n] (kK [(0, some (95, .ds [D.sl (dI .u8 l) (List.length l)]))]) 1 (iV (((kA l n) : Nat) : Int)) (kK [(0, some (95, .ds [D.sl (dI .u8 (kC l n)) (List.length (kC l n))]))]) 1 := by
  refine Fun.mk (n := 34) Tryz.func38 rfl rfl (Nat.le_of_ble_eq_true rfl) ?_
  intro cx hcx
  refine kL [.no] True [(0, rV 0 0), (1, iV n)] [(0, some (95, .ds [db l (List.length l)]))] 1 trivial ?_
  refine AW.seq ?_
  by_cases hx1 : ((((List.length l) : Nat) : Int) = 0)
  · refine zr (qA 5 [.b true, .no, .no]) [0, 1, 15] [0] (((List.length l : Int) = 0)) [(0, rV 0 0), (1, iV n), (15, bV true)] [(0, some (95, .ds [db l (List.length l)]))] 1 zo ?_
    refine zt ?_
    refine kL [.no] True [(4, iV 0)] [(0, some (95, .ds [db l (List.length l)]))] 1 trivial ?_
    refine AW.ret ?_
    exact kD (.inr rfl) [] (P := (((kA l n : Int) : Int) = 0) ∧ (([db (kC l n) (List.length (kC l n))] : List D) = [db l (List.length l)])) zk ⟨(by first | rfl | exact dJ zo | exact iT hb zo | (rw [b7 (by omega)]) | (rw [dK (by omega), List.length_drop])), (by first | rw [b7 (by omega)] | rw [dK (by omega), List.length_drop])⟩
  · by_cases hx2 : (n ≤ 1)
    · refine zr (qA 5 [.b false, .no, .no, .b true, .no]) [0, 1, 15] [0] ((¬ ((List.length l : Int) = 0)) ∧ ((n ≤ 1))) [(0, rV 0 0), (1, iV n), (15, bV true)] [(0, some (95, .ds [db l (List.length l)]))] 1 ⟨zo, zo⟩ ?_
      refine zt ?_
      refine kL [.no] True [(4, iV 0)] [(0, some (95, .ds [db l (List.length l)]))] 1 trivial ?_
      refine AW.ret ?_
      exact kD (.inr rfl) [] (P := (((kA l n : Int) : Int) = 0) ∧ (([db (kC l n) (List.length (kC l n))] : List D) = [db l (List.length l)])) zk ⟨(by first | rfl | exact dJ zo | exact iT hb zo | (rw [b7 (by omega)]) | (rw [dK (by omega), List.length_drop])), (by first | rw [b7 (by omega)] | rw [dK (by omega), List.length_drop])⟩
    · refine zr (qA 5 [.b false, .no, .no, .b false, .no]) [0, 1, 15] [0] ((¬ ((List.length l : Int) = 0)) ∧ (¬ (n ≤ 1))) [(0, rV 0 0), (1, iV n), (15, bV false)] [(0, some (95, .ds [db l (List.length l)]))] 1 ⟨zo, zo⟩ ?_
      refine uB ?_
      have hx3 : 0 ≤ (List.getD l 0 0) ∧ (List.getD l 0 0) ≤ 255 := hb.at 0 zo
      refine kL (qA 4 [.n 0, .d (D.lit (.int .u8 (List.getD l 0 0))), .w, .no]) ((kO 0) ∧ ((0 : Nat) < (List.length l)) ∧ ((List.drop 0 (dI .u8 l))[0]? = some (D.lit (.int .u8 (List.getD l 0 0)))) ∧ ((-9223372036854775808) ≤ (List.getD l 0 0) ∧ (List.getD l 0 0) ≤ 9223372036854775807)) [(0, rV 0 0), (1, iV n), (5, iV (List.getD l 0 0))] [(0, some (95, .ds [db l (List.length l)]))] 1 ⟨rfl, zo, (q5 _ _ _ (by first | omega | (simp only [uK, qX, List.length_append, List.length_cons, List.length_nil, List.length_take, List.length_drop, List.length_replicate, List.length_set, List.length_map, List.length_reverse, Nat.mul_one] <;> omega) | rfl)), ⟨by omega, by omega⟩⟩ ?_
      refine kL (qA 5 [.sls 1 (List.length l) ((List.length l) - 1) (dI .u8 (List.drop 1 l)), .no, .no, .no]) ((kO 1) ∧ ((List.length l) = (List.length l)) ∧ ((1 : Nat) ≤ (List.length l)) ∧ ((List.length l) ≤ (List.length l)) ∧ ((List.length l) - 1 = ((List.length l) - 1)) ∧ (List.take (((List.length l) - 1) * 1) (List.drop (1 * 1) (dI .u8 l)) = (dI .u8 (List.drop 1 l)))) [(1, iV n), (5, iV (List.getD l 0 0))] [(0, some (95, .ds [db (List.drop 1 l) ((List.length l) - 1)]))] 1 ⟨rfl, rfl, zo, zo, zo, (by first | rfl | with_reducible assumption | exact yF _ _ _ | exact k78 _ _ _ | (simp only [b5, v6, yF, Nat.mul_one, Nat.zero_mul, List.drop_zero, List.nil_append, List.append_nil]; done) | (simp only [b5, v6, yF, Nat.mul_one, Nat.zero_mul, List.drop_zero, List.nil_append, List.append_nil]; rfl) | (rw [List.take_of_length_le (by simp only [uK, qX, List.length_drop, List.length_replicate, Nat.mul_one] <;> omega)]; first | rfl | (simp only [v6, Nat.mul_one, Nat.zero_mul, List.drop_zero]; done) | (simp only [v6, Nat.mul_one, Nat.zero_mul, List.drop_zero]; rfl)))⟩ ?_
      refine kP [.no, .no, .ps, .no] (((0 : Int) ≤ ((List.getD l 0 0) : Int)) ∧ ((0 : Int) < (n : Int))) [(4, iV ((List.getD l 0 0) % n))] ⟨zo, zo⟩ ?_
      refine AW.ret ?_
      exact kD (.inr rfl) [] (P := (((kA l n : Int) : Int) = ((List.getD l 0 0) % n)) ∧ (([db (kC l n) (List.length (kC l n))] : List D) = [db (List.drop 1 l) ((List.length l) - 1)])) zk ⟨(by first | rfl | exact dJ zo | exact iT hb zo | (rw [b7 (by omega)]) | (rw [dK (by omega), List.length_drop])), (by first | rw [b7 (by omega)] | rw [dK (by omega), List.length_drop])⟩
end Go.Proofs.YtcfmjpnffembpaaGreat
namespace Go.Proofs.YtcfmjpnffembpaaGreat
open Go.ChangeShapes Go.WideShapes Go.ChangeAt Go.RowKit
set_option linter.unusedVariables false
set_option linter.unusedSimpArgs false
/-! chapter 10: boxes out of dice -/
set_option maxHeartbeats 4000000
set_option maxRecDepth 100000
def pH : List (List Int) := [[3], [1, 2], [1, 2, 3, 4, 5, 6], [2, 1], [1, 2, 7, 8], [4], [1, 3]]
theorem u4r : MsW pH := fun l h => by
 have h1 : ∀ l ∈ pH, List.length l ≤ 6 := by decide
 have := h1 l h; omega
def yB (l : List Int) : List Int := List.getD pH (kA l 7) []
def uJ (l : List Int) : Nat → List Int
 | 0 => l
 | i + 1 => kC (uJ l i) 2
def zG (sp l : List Int) : Nat → List Int
 | 0 => []
 | i + 1 => if kA (uJ l i) 2 = 1 then zG sp l i ++ [List.getD sp (i * 2) 0, List.getD sp (i * 2 + 1) 0] else zG sp l i
theorem aC {l : List Int} (h : Byt l) : ∀ i, Byt (uJ l i)
 | 0 => h
 | i + 1 => qK _ (aC h i)
theorem u3w {sp l : List Int} {i : Nat} {o : List Int} (h : zG sp l i = o) (h1 : kA (uJ l i) 2 = 1) : zG sp l (i + 1) = o ++ [List.getD sp (i * 2) 0, List.getD sp (i * 2 + 1) 0] := by
 subst h; exact if_pos h1
theorem u3x {sp l : List Int} {i : Nat} {o : List Int} (h : zG sp l i = o) (h1 : ¬ kA (uJ l i) 2 = 1) : zG sp l (i + 1) = o := by
 subst h; exact if_neg h1
def aX (sp l : List Int) (n : Nat) : List Int := if zG sp l n = [] then [List.getD sp (kA (uJ l n) (n : Int) * 2) 0, List.getD sp (kA (uJ l n) (n : Int) * 2 + 1) 0] else zG sp l n
def yQ (sp l : List Int) (n : Nat) : List Int := if zG sp l n = [] then kC (uJ l n) (n : Int) else uJ l n
def a6 (sp l : List Int) (n : Nat) : Nat := (aX sp l n).length / 2
theorem bU {sp l : List Int} {n : Nat} (h : Byt l) : Byt (yQ sp l n) := by unfold yQ; split; exact qK _ (aC h n); exact aC h n
theorem u6m {sp l o : List Int} {n k i : Nat} (h : zG sp l i = o) (hi : i = n) (hl : o.length = k * 2) (hk : k = 0) : aX sp l n = o ++ [List.getD sp (kA (uJ l i) (n : Int) * 2) 0, List.getD sp (kA (uJ l i) (n : Int) * 2 + 1) 0] ∧ yQ sp l n = kC (uJ l i) (n : Int) ∧ a6 sp l n = k + 1 := by
 subst hi; subst hk
 have h2 : o = [] := List.eq_nil_of_length_eq_zero (by omega)
 have h0 : zG sp l i = [] := by rw [h, h2]
 have h1 : aX sp l i = [List.getD sp (kA (uJ l i) (i : Int) * 2) 0, List.getD sp (kA (uJ l i) (i : Int) * 2 + 1) 0] := if_pos h0
 refine ⟨by rw [h1, h2]; rfl, if_pos h0, ?_⟩
 unfold a6; rw [h1, List.length_cons, List.length_cons, List.length_nil]
theorem u6l {sp l o : List Int} {n k i : Nat} (h : zG sp l i = o) (hi : i = n) (hl : o.length = k * 2) (hk : 1 ≤ k) : aX sp l n = o ∧ yQ sp l n = uJ l i ∧ a6 sp l n = k := by
 subst hi
 have h0 : ¬ zG sp l i = [] := fun e => by rw [h] at e; rw [e] at hl; have : (0 : Nat) = k * 2 := hl; omega
 have h1 : aX sp l i = o := by unfold aX; rw [if_neg h0, h]
 refine ⟨h1, if_neg h0, ?_⟩
 unfold a6; rw [h1, hl]; omega
theorem r8 (l : List Int) : List.length (yB l) ≤ 6 := by
 have h1 : ∀ l ∈ pH, List.length l ≤ 6 := by decide
 unfold yB
 rw [List.getD_eq_getElem?_getD]
 cases e : pH[kA l 7]? with
 | none => exact Nat.zero_le _
 | some x => exact h1 x (List.mem_of_getElem? e)
theorem k1g {l : List Int} (h : Byt l) : 1 ≤ List.length (yB l) ∧ List.length (yB l) ≤ 6 := by
 refine ⟨?_, r8 l⟩
 have h1 : ∀ x ∈ pH, 1 ≤ List.length x := by decide
 have h2 := uA l 7 h
 have h3 : kA l 7 < pH.length := by show _ < 7; omega
 unfold yB
 rw [List.getD_eq_getElem?_getD, List.getElem?_eq_getElem h3]
 exact h1 _ (List.getElem_mem h3)
theorem v7 {p : Prop} (h : p := by first | omega | (simp only [qC, qB, qX, List.length_append, List.length_cons, List.length_nil, List.length_take, List.length_drop, List.length_replicate, List.length_set, List.length_map, List.length_reverse, Nat.mul_one] <;> omega) | rfl) : p := h
theorem u3n   : Fun 99 [] (kK []) 0 (kI (kJ pH) 7) (kK []) 0 := by
 refine Fun.mk (n := 9) Tryz.func99 rfl rfl (Nat.le_of_ble_eq_true rfl) ?_
 intro cx hcx
 refine kL [.no] True [] [] 0 trivial ?_
 refine kL [(.fz (.no)), (.fz (.no)), (.fz (.no)), (.fz (.no)), (.fz (.no)), (.fz (.no)), (.fz (.no)), .no, .no] ((([iD 3] : List D).length = 1 * 1) ∧ (([iD 1, iD 2] : List D).length = 2 * 1) ∧ (([iD 1, iD 2, iD 3, iD 4, iD 5, iD 6] : List D).length = 6 * 1) ∧ (([iD 2, iD 1] : List D).length = 2 * 1) ∧ (([iD 1, iD 2, iD 7, iD 8] : List D).length = 4 * 1) ∧ (([iD 4] : List D).length = 1 * 1) ∧ (([iD 1, iD 3] : List D).length = 2 * 1)) [(0, oV 7 0 7 1)] [(7, some (23, .ds [D.sl [iD 3] 1, D.sl [iD 1, iD 2] 2, D.sl [iD 1, iD 2, iD 3, iD 4, iD 5, iD 6] 6, D.sl [iD 2, iD 1] 2, D.sl [iD 1, iD 2, iD 7, iD 8] 4, D.sl [iD 4] 1, D.sl [iD 1, iD 3] 2]))] 8 ⟨v7, v7, v7, v7, v7, v7, v7⟩ ?_
 refine AW.freeze 7 (l' := [(0, kI [D.sl [iD 3] 1, D.sl [iD 1, iD 2] 2, D.sl [iD 1, iD 2, iD 3, iD 4, iD 5, iD 6] 6, D.sl [iD 2, iD 1] 2, D.sl [iD 1, iD 2, iD 7, iD 8] 4, D.sl [iD 4] 1, D.sl [iD 1, iD 3] 2] 7)]) (g' := []) rfl (FzS.cons rfl (.e (.c (@FzC.own 7 ([D.sl [iD 3] 1, D.sl [iD 1, iD 2] 2, D.sl [iD 1, iD 2, iD 3, iD 4, iD 5, iD 6] 6, D.sl [iD 2, iD 1] 2, D.sl [iD 1, iD 2, iD 7, iD 8] 4, D.sl [iD 4] 1, D.sl [iD 1, iD 3] 2] : List D) 0 (7 : Nat) 1 true ([D.sl [iD 3] 1, D.sl [iD 1, iD 2] 2, D.sl [iD 1, iD 2, iD 3, iD 4, iD 5, iD 6] 6, D.sl [iD 2, iD 1] 2, D.sl [iD 1, iD 2, iD 7, iD 8] 4, D.sl [iD 4] 1, D.sl [iD 1, iD 3] 2] : List D) (by rw [List.drop_zero, Nat.mul_one, List.take_of_length_le (by first | omega | (simp only [qC, qB, qX, List.length_append, List.length_cons, List.length_nil, List.length_take, List.length_drop, List.length_replicate, List.length_set, List.length_map, List.length_reverse, Nat.mul_one] <;> omega))]) v7))) FzS.nil) FzG.nil ?_
 refine AW.ret ?_
 exact kD (.inr rfl) [] (P := (((kJ pH) : List D) = [D.sl [iD 3] 1, D.sl [iD 1, iD 2] 2, D.sl [iD 1, iD 2, iD 3, iD 4, iD 5, iD 6] 6, D.sl [iD 2, iD 1] 2, D.sl [iD 1, iD 2, iD 7, iD 8] 4, D.sl [iD 4] 1, D.sl [iD 1, iD 3] 2]) ∧ (kH 7)) zk ⟨(by first | rfl | decide), rfl⟩
theorem u1j (l : List Int) (hb : Byt l) : Fun 58 [.c (.ptr 0 0)] (kK [(0, some (95, .ds [D.sl (dI .u8 l) (List.length l)]))]) 1 (sV .i64 (yB l) (List.length (yB l))) (kK [(0, some (95, .ds [D.sl (dI .u8 (kC l 7)) (List.length (kC l 7))]))]) 1 := by
 refine Fun.mk (n := 8) Tryz.func58 rfl rfl (Nat.le_of_ble_eq_true rfl) ?_
 intro cx hcx
 refine kL [.no] True [(0, rV 0 0)] [(0, some (95, .ds [db l (List.length l)]))] 1 trivial ?_
 have hx1 : ((((((kA l 7) : Nat) : Int) < 7) ∨ ((kA l 7) = 0)) ∧ ((kA l 7) ≤ 255)) := uA l (7 : Int) (qF : Byt l)
 have hx2 : (Byt (kC l 7)) := qK (7 : Int) (qF : Byt l)
 have hx3 : ((List.length (List.getD pH (kA l 7) ([] : List Int))) ≤ 1000000) := MsW.at u4r _
 refine kL [.call [] (kI (kJ pH) 7) [] 0 [] none, .no, .call [0] (uV (kA l 7)) [(0, some (95, .ds [db (kC l 7) (List.length (kC l 7))]))] 1 [] none, .n (kA l 7), .d (dl (List.getD pH (kA l 7) ([] : List Int)) (List.length (List.getD pH (kA l 7) ([] : List Int)))), .no] ((_) ∧ (_) ∧ (kO (kA l 7 : Int)) ∧ ((kA l 7) < 7) ∧ ((List.drop (kA l 7) (kJ pH))[0]? = some (dl (List.getD pH (kA l 7) ([] : List Int)) (List.length (List.getD pH (kA l 7) ([] : List Int)))))) [(2, sV .i64 (List.getD pH (kA l 7) ([] : List Int)) (List.length (List.getD pH (kA l 7) ([] : List Int))))] [(0, some (95, .ds [db (kC l 7) (List.length (kC l 7))]))] 1 ⟨(u3n), (uQ l 7 (qF : Byt l)), rfl, zo, (aB _ _ (by show _ < 7; omega))⟩ ?_
 refine AW.ret ?_
 exact kD (.inr rfl) [] (P := (((dI .i64 (yB l)) : List D) = (dI .i64 (List.getD pH (kA l 7) ([] : List Int)))) ∧ (((List.length (yB l)) : Nat) = (List.length (List.getD pH (kA l 7) ([] : List Int)))) ∧ (kM [db (kC l 7) (List.length (kC l 7))])) zk ⟨(by first | rfl | decide), (by first | omega | rfl | assumption | (simp; done) | (simp; omega)), rfl⟩
abbrev dA (l : List Int) (i : Nat) : BC := .ds [D.sl (dI .u8 (uJ l i)) (List.length (uJ l i))]
abbrev lC (l : List Int) (i : Nat) : BC := .ds [D.sl (dI .u8 (kC (uJ l i) 2)) (List.length (kC (uJ l i) 2))]
theorem u1i (sp : List Int) (n : Nat) (l : List Int) (hl : List.length sp = n * 2) (h1 : 1 ≤ n) (h2 : n ≤ 1000) (hb : Byt l) : Fun 123 [.c (.ptr 0 0), .c (.d (D.sl (dI .i64 sp) n))] (kK [(0, some (95, .ds [D.sl (dI .u8 l) (List.length l)]))]) 1 (.e (.agg [.d (D.sl (dI .i64 (fU (aX sp l n) (a6 sp l n))) (vY (aX sp l n) (a6 sp l n)))])) (kK [(0, some (95, .ds [D.sl (dI .u8 (yQ sp l n)) (List.length (yQ sp l n))]))]) 1 := by
 refine Fun.mk (n := 43) Tryz.func123 rfl rfl (Nat.le_of_ble_eq_true rfl) ?_
 intro cx hcx
 refine kL [.no] True [(0, rV 0 0), (1, sV .i64 sp n), (4, rV 1 0)] [(0, some (95, .ds [db l (List.length l)])), (1, some (56, .ds [k9]))] 2 trivial ?_
 refine kP [.no] True [(0, rV 0 0), (1, sV .i64 sp n), (4, rV 1 0), (5, nV)] trivial ?_
 refine AW.seq ?_
 refine kP [.no, .no, .no] True [(0, rV 0 0), (1, sV .i64 sp n), (4, rV 1 0), (5, nV), (10, sV .i64 sp n), (11, uV n), (12, iV 0)] trivial ?_
 refine AW.block ?_
 refine AW.adoptS 5 2 77 rfl ?_
 refine kZ 1 hcx (fun (x : {x : Nat × Nat × List Int // match x with | (i, k, o) => (i ≤ n ∧ k ≤ i) ∧ (zG sp l i = o) ∧ (List.length o = k * 2)}) => match x with | ⟨(i, k, o), _⟩ => (⟨[(0, rV 0 0), (1, sV .i64 sp n), (4, rV 1 0), (5, oV 3 0 k 2), (10, sV .i64 sp n), (11, uV n), (12, uV i)], [(0, some (95, (dA l i))), (1, some (56, .ds [k9])), (3, some (77, .ds (dI .i64 o)))], 4⟩ : ES)) (fun x => match x with | ⟨(i, k, o), _⟩ => n - i) ⟨((0 : Nat), (0 : Nat), (([] : List Int) : List Int)), ⟨(by first | omega | assumption | simp), rfl, rfl⟩⟩ [(3, 2)] (P := (kH 0) ∧ (kM (dI .i64 sp)) ∧ (kH n) ∧ (kH 0) ∧ (kH 0) ∧ (kH 0) ∧ (kM (dI .i64 sp)) ∧ (kH n) ∧ (kO (n : Int)) ∧ (kO 0) ∧ (([db (uJ l 0) (List.length (uJ l 0))] : List D) = [db l (List.length l)]) ∧ (kM [k9]) ∧ (((dI .i64 ([] : List Int)) : List D) = ([] : List D))) zk ⟨rfl, rfl, rfl, rfl, rfl, rfl, rfl, rfl, rfl, rfl, (by first | rfl | with_reducible assumption), rfl, (by first | rfl | with_reducible assumption)⟩ ?_
 rintro ⟨⟨i, k, o⟩, hinv0⟩
 obtain ⟨hi, hS, ho⟩ : (i ≤ n ∧ k ≤ i) ∧ (zG sp l i = o) ∧ (List.length o = k * 2) := hinv0
 refine qT (l := [(0, rV 0 0), (1, sV .i64 sp n), (4, rV 1 0), (5, oV 3 0 k 2), (10, sV .i64 sp n), (11, uV n), (12, uV i)]) (g := [(0, some (95, (dA l i))), (1, some (56, .ds [k9])), (3, some (77, .ds (dI .i64 o)))]) (nx := 4) rfl rfl rfl ?_
 by_cases hx1 : (((i : Nat) : Int) < ((n : Nat) : Int))
 ·refine kL [.b true] (((i : Int) < (n : Int))) [(0, rV 0 0), (1, sV .i64 sp n), (4, rV 1 0), (5, oV 3 0 k 2), (10, sV .i64 sp n), (11, uV n), (12, uV i), (13, bV true)] [(0, some (95, (dA l i))), (1, some (56, .ds [k9])), (3, some (77, .ds (dI .i64 o)))] 4 zo ?_
  refine AW.seq ?_
  refine vP ?_
  refine AW.seq ?_
  refine AW.block ?_
  refine kL [.n i, .ds [iD (List.getD sp (i * 2) 0), iD (List.getD sp ((i * 2) + 1) 0)], .no, .no] ((kO (i : Int)) ∧ (i < n) ∧ (List.take 2 (List.drop (i * 2) (dI .i64 sp)) = [iD (List.getD sp (i * 2) 0), iD (List.getD sp ((i * 2) + 1) 0)]) ∧ (([iD (List.getD sp (i * 2) 0), iD (List.getD sp ((i * 2) + 1) 0)] : List D).length = 2)) [(0, rV 0 0), (1, sV .i64 sp n), (4, rV 1 0), (5, oV 3 0 k 2), (7, rV 4 0), (10, sV .i64 sp n), (11, uV n), (12, uV i)] [(0, some (95, (dA l i))), (1, some (56, .ds [k9])), (3, some (77, .ds (dI .i64 o))), (4, some (77, .ds [iD (List.getD sp (i * 2) 0), iD (List.getD sp ((i * 2) + 1) 0)]))] 5 ⟨rfl, zo, (bN .i64 sp (i * 2) 2 v7), rfl⟩ ?_
  by_cases hx4 : ((((kA (uJ l i) 2) : Nat) : Int) = 1)
  ·have hx5 : ((((((kA (uJ l i) 2) : Nat) : Int) < 2) ∨ ((kA (uJ l i) 2) = 0)) ∧ ((kA (uJ l i) 2) ≤ 255)) := uA (uJ l i) (2 : Int) ((aC (qF : Byt l) _))
   have hx6 : (Byt (kC (uJ l i) 2)) := qK (2 : Int) ((aC (qF : Byt l) _))
   refine kL [.no, .call [0] (uV (kA (uJ l i) 2)) [(0, some (95, (lC l i)))] 1 [] none, .b true] ((_) ∧ (((kA (uJ l i) 2 : Int) = 1))) [(0, rV 0 0), (1, sV .i64 sp n), (4, rV 1 0), (5, oV 3 0 k 2), (7, rV 4 0), (10, sV .i64 sp n), (11, uV n), (12, uV i), (18, bV true)] [(0, some (95, (lC l i))), (1, some (56, .ds [k9])), (3, some (77, .ds (dI .i64 o))), (4, some (77, .ds [iD (List.getD sp (i * 2) 0), iD (List.getD sp ((i * 2) + 1) 0)]))] 5 ⟨(uQ (uJ l i) 2 (aC (qF : Byt l) _)), zo⟩ ?_
   refine zt ?_
   refine a5 [.no, .no, .no, .ap none (k + 1) (dI .i64 (o ++ ([(List.getD sp (i * 2) 0), (List.getD sp ((i * 2) + 1) 0)] : List Int))), .no] (([iD (List.getD sp (i * 2) 0), iD (List.getD sp ((i * 2) + 1) 0)].length = 1 * 2) ∧ (((dI .i64 o) : List D).length = k * 2) ∧ ((k + 1) * 16 ≤ 140737488355328) ∧ (k + 1 = (k + 1)) ∧ (((dI .i64 o) : List D) ++ [iD (List.getD sp (i * 2) 0), iD (List.getD sp ((i * 2) + 1) 0)] = (dI .i64 (o ++ ([(List.getD sp (i * 2) 0), (List.getD sp ((i * 2) + 1) 0)] : List Int))))) [(0, rV 0 0), (1, sV .i64 sp n), (4, rV 1 0), (5, oV 6 0 (k + 1) 2), (10, sV .i64 sp n), (11, uV n), (12, uV i)] [(0, some (95, (lC l i))), (1, some (56, .ds [k9])), (6, some (77, .ds (dI .i64 (o ++ ([(List.getD sp (i * 2) 0), (List.getD sp ((i * 2) + 1) 0)] : List Int)))))] 7 ⟨v7, v7, zo, zo, (yF .i64 o ([(List.getD sp (i * 2) 0), (List.getD sp ((i * 2) + 1) 0)] : List Int))⟩ ?_
   refine uS [.w, .no] ((-9223372036854775808) ≤ ((i : Int) + 1) ∧ ((i : Int) + 1) ≤ 9223372036854775807) [(0, rV 0 0), (1, sV .i64 sp n), (4, rV 1 0), (5, oV 6 0 (k + 1) 2), (10, sV .i64 sp n), (11, uV n), (12, iV (↑i + 1))] ⟨by omega, by omega⟩ ?_
   exact kW ⟨(((i + 1) : Nat), ((k + 1) : Nat), ((o ++ ([(List.getD sp (i * 2) 0), (List.getD sp ((i * 2) + 1) 0)] : List Int)) : List Int)), ⟨(by first | omega | assumption | simp), (by first | exact u3w hS zo | exact u3x hS zo), (by first | assumption | (simp only [qC, qB, List.length_append, List.length_cons, List.length_nil] <;> omega))⟩⟩ [(3, 6)] (P := (kH 0) ∧ (kM (dI .i64 sp)) ∧ (kH n) ∧ (kH 0) ∧ (kH 0) ∧ (kH (k + 1)) ∧ (kM (dI .i64 sp)) ∧ (kH n) ∧ (kO (n : Int)) ∧ (((((i + 1) : Nat) : Int) : Int) = ((i : Int) + 1)) ∧ (([db (uJ l (i + 1)) (List.length (uJ l (i + 1)))] : List D) = [db (kC (uJ l i) 2) (List.length (kC (uJ l i) 2))]) ∧ (kM [k9]) ∧ (kM (dI .i64 (o ++ ([(List.getD sp (i * 2) 0), (List.getD sp ((i * 2) + 1) 0)] : List Int))))) zk ⟨rfl, rfl, rfl, rfl, rfl, rfl, rfl, rfl, rfl, (by first | rfl | omega | assumption | (simp; done) | (simp; omega)), (by first | rfl | with_reducible assumption), rfl, rfl⟩ (show n - (i + 1) < n - i from (by first | omega | (show _ < _; simp; omega)))
  ·have hx7 : ((((((kA (uJ l i) 2) : Nat) : Int) < 2) ∨ ((kA (uJ l i) 2) = 0)) ∧ ((kA (uJ l i) 2) ≤ 255)) := uA (uJ l i) (2 : Int) ((aC (qF : Byt l) _))
   have hx8 : (Byt (kC (uJ l i) 2)) := qK (2 : Int) ((aC (qF : Byt l) _))
   refine kL [.no, .call [0] (uV (kA (uJ l i) 2)) [(0, some (95, (lC l i)))] 1 [] none, .b false] ((_) ∧ (¬ ((kA (uJ l i) 2 : Int) = 1))) [(0, rV 0 0), (1, sV .i64 sp n), (4, rV 1 0), (5, oV 3 0 k 2), (7, rV 4 0), (10, sV .i64 sp n), (11, uV n), (12, uV i), (18, bV false)] [(0, some (95, (lC l i))), (1, some (56, .ds [k9])), (3, some (77, .ds (dI .i64 o))), (4, some (77, .ds [iD (List.getD sp (i * 2) 0), iD (List.getD sp ((i * 2) + 1) 0)]))] 5 ⟨(uQ (uJ l i) 2 (aC (qF : Byt l) _)), zo⟩ ?_
   refine uB ?_
   refine a5 [.w, .no] ((-9223372036854775808) ≤ ((i : Int) + 1) ∧ ((i : Int) + 1) ≤ 9223372036854775807) [(0, rV 0 0), (1, sV .i64 sp n), (4, rV 1 0), (5, oV 3 0 k 2), (10, sV .i64 sp n), (11, uV n), (12, iV (↑i + 1))] [(0, some (95, (lC l i))), (1, some (56, .ds [k9])), (3, some (77, .ds (dI .i64 o)))] 5 ⟨by omega, by omega⟩ ?_
   exact kW ⟨(((i + 1) : Nat), (k : Nat), (o : List Int)), ⟨(by first | omega | assumption | simp), (by first | exact u3w hS zo | exact u3x hS zo), (by first | assumption | (simp only [qC, qB, List.length_append, List.length_cons, List.length_nil] <;> omega))⟩⟩ [] (P := (kH 0) ∧ (kM (dI .i64 sp)) ∧ (kH n) ∧ (kH 0) ∧ (kH 0) ∧ (kH k) ∧ (kM (dI .i64 sp)) ∧ (kH n) ∧ (kO (n : Int)) ∧ (((((i + 1) : Nat) : Int) : Int) = ((i : Int) + 1)) ∧ (([db (uJ l (i + 1)) (List.length (uJ l (i + 1)))] : List D) = [db (kC (uJ l i) 2) (List.length (kC (uJ l i) 2))]) ∧ (kM [k9]) ∧ (kM (dI .i64 o))) zk ⟨rfl, rfl, rfl, rfl, rfl, rfl, rfl, rfl, rfl, (by first | rfl | omega | assumption | (simp; done) | (simp; omega)), (by first | rfl | with_reducible assumption), rfl, rfl⟩ (show n - (i + 1) < n - i from (by first | omega | (show _ < _; simp; omega)))
 ·refine kL [.b false] (¬ ((i : Int) < (n : Int))) [(0, rV 0 0), (1, sV .i64 sp n), (4, rV 1 0), (5, oV 3 0 k 2), (10, sV .i64 sp n), (11, uV n), (12, uV i), (13, bV false)] [(0, some (95, (dA l i))), (1, some (56, .ds [k9])), (3, some (77, .ds (dI .i64 o)))] 4 zo ?_
  refine AW.seq ?_
  refine zf ?_
  refine AW.exit ?_
  refine AW.seq ?_
  by_cases hx9 : (((k : Nat) : Int) = 0)
  ·refine kL [.no, .no, .b true] (((k : Int) = 0)) [(0, rV 0 0), (1, sV .i64 sp n), (4, rV 1 0), (5, oV 3 0 k 2), (26, bV true)] [(0, some (95, (dA l i))), (1, some (56, .ds [k9])), (3, some (77, .ds (dI .i64 o)))] 4 zo ?_
   refine zt ?_
   have hx10 : ((((((kA (uJ l i) ((n : Nat) : Int)) : Nat) : Int) < ((n : Nat) : Int)) ∨ ((kA (uJ l i) ((n : Nat) : Int)) = 0)) ∧ ((kA (uJ l i) ((n : Nat) : Int)) ≤ 255)) := uA (uJ l i) ((n : Nat) : Int) ((aC (qF : Byt l) _))
   have hx11 : (Byt (kC (uJ l i) ((n : Nat) : Int))) := qK ((n : Nat) : Int) ((aC (qF : Byt l) _))
   refine a5 (qA 5 [.call [0] (uV (kA (uJ l i) (n : Int))) [(0, some (95, .ds [db (kC (uJ l i) (n : Int)) (List.length (kC (uJ l i) (n : Int)))]))] 1 [] none, .n (kA (uJ l i) (n : Int)), .ds [iD (List.getD sp ((kA (uJ l i) (n : Int)) * 2) 0), iD (List.getD sp (((kA (uJ l i) (n : Int)) * 2) + 1) 0)], .no, .ap none (k + 1) (dI .i64 (o ++ ([(List.getD sp ((kA (uJ l i) (n : Int)) * 2) 0), (List.getD sp (((kA (uJ l i) (n : Int)) * 2) + 1) 0)] : List Int))), .no]) ((_) ∧ (kO (((kA (uJ l i) (n : Int)) : Nat) : Int)) ∧ ((kA (uJ l i) (n : Int)) < n) ∧ (List.take 2 (List.drop ((kA (uJ l i) (n : Int)) * 2) (dI .i64 sp)) = [iD (List.getD sp ((kA (uJ l i) (n : Int)) * 2) 0), iD (List.getD sp (((kA (uJ l i) (n : Int)) * 2) + 1) 0)]) ∧ (([iD (List.getD sp ((kA (uJ l i) (n : Int)) * 2) 0), iD (List.getD sp (((kA (uJ l i) (n : Int)) * 2) + 1) 0)] : List D).length = 2) ∧ ([iD (List.getD sp ((kA (uJ l i) (n : Int)) * 2) 0), iD (List.getD sp (((kA (uJ l i) (n : Int)) * 2) + 1) 0)].length = 1 * 2) ∧ (((dI .i64 o) : List D).length = k * 2) ∧ ((k + 1) * 16 ≤ 140737488355328) ∧ (k + 1 = (k + 1)) ∧ (((dI .i64 o) : List D) ++ [iD (List.getD sp ((kA (uJ l i) (n : Int)) * 2) 0), iD (List.getD sp (((kA (uJ l i) (n : Int)) * 2) + 1) 0)] = (dI .i64 (o ++ ([(List.getD sp ((kA (uJ l i) (n : Int)) * 2) 0), (List.getD sp (((kA (uJ l i) (n : Int)) * 2) + 1) 0)] : List Int))))) [(4, rV 1 0), (5, oV 5 0 (k + 1) 2)] [(0, some (95, .ds [db (kC (uJ l i) ↑n) (List.length (kC (uJ l i) ↑n))])), (1, some (56, .ds [k9])), (5, some (77, .ds (dI .i64 (o ++ ([(List.getD sp ((kA (uJ l i) ↑n) * 2) 0), (List.getD sp (((kA (uJ l i) ↑n) * 2) + 1) 0)] : List Int)))))] 6 ⟨(uQ (uJ l i) (n : Int) (aC (qF : Byt l) _)), rfl, zo, (bN .i64 sp ((kA (uJ l i) (n : Int)) * 2) 2 v7), rfl, v7, v7, zo, zo, (yF .i64 o ([(List.getD sp ((kA (uJ l i) (n : Int)) * 2) 0), (List.getD sp (((kA (uJ l i) (n : Int)) * 2) + 1) 0)] : List Int))⟩ ?_
   refine AW.freeze 5 (l' := [(4, rV 1 0), (5, sV .i64 (o ++ ([(List.getD sp ((kA (uJ l i) (n : Int)) * 2) 0), (List.getD sp (((kA (uJ l i) (n : Int)) * 2) + 1) 0)] : List Int)) (k + 1))]) (g' := [(0, some (95, .ds [db (kC (uJ l i) (n : Int)) (List.length (kC (uJ l i) (n : Int)))])), (1, some (56, .ds [k9]))]) rfl (FzS.cons rfl (.same _) (FzS.cons rfl (.e (.c (@FzC.own 5 ((dI .i64 (o ++ ([(List.getD sp ((kA (uJ l i) (n : Int)) * 2) 0), (List.getD sp (((kA (uJ l i) (n : Int)) * 2) + 1) 0)] : List Int))) : List D) 0 (k + 1) 2 true ((dI .i64 (o ++ ([(List.getD sp ((kA (uJ l i) (n : Int)) * 2) 0), (List.getD sp (((kA (uJ l i) (n : Int)) * 2) + 1) 0)] : List Int))) : List D) (by rw [List.drop_zero, List.take_of_length_le (by first | omega | (simp only [qC, qB, qX, List.length_append, List.length_cons, List.length_nil, List.length_take, List.length_drop, List.length_replicate, List.length_set, List.length_map, List.length_reverse, Nat.mul_one] <;> omega))]) v7))) FzS.nil)) (qO rfl rfl (qO rfl rfl FzG.nil)) ?_
   have hx12 : ((List.length (fU (o ++ ([(List.getD sp ((kA (uJ l i) ((n : Nat) : Int)) * 2) 0), (List.getD sp (((kA (uJ l i) ((n : Nat) : Int)) * 2) + 1) 0)] : List Int)) (k + 1))) = ((vY (o ++ ([(List.getD sp ((kA (uJ l i) ((n : Nat) : Int)) * 2) 0), (List.getD sp (((kA (uJ l i) ((n : Nat) : Int)) * 2) + 1) 0)] : List Int)) (k + 1)) * 2)) := mO (o ++ ([(List.getD sp ((kA (uJ l i) ((n : Nat) : Int)) * 2) 0), (List.getD sp (((kA (uJ l i) ((n : Nat) : Int)) * 2) + 1) 0)] : List Int)) (k + 1)
   have hx13 : ((((0 : Int) ≤ (oL (o ++ ([(List.getD sp ((kA (uJ l i) ((n : Nat) : Int)) * 2) 0), (List.getD sp (((kA (uJ l i) ((n : Nat) : Int)) * 2) + 1) 0)] : List Int)) (k + 1))) ∧ ((oL (o ++ ([(List.getD sp ((kA (uJ l i) ((n : Nat) : Int)) * 2) 0), (List.getD sp (((kA (uJ l i) ((n : Nat) : Int)) * 2) + 1) 0)] : List Int)) (k + 1)) ≤ 3)) ∧ ((vY (o ++ ([(List.getD sp ((kA (uJ l i) ((n : Nat) : Int)) * 2) 0), (List.getD sp (((kA (uJ l i) ((n : Nat) : Int)) * 2) + 1) 0)] : List Int)) (k + 1)) ≤ 64)) := r5 (o ++ ([(List.getD sp ((kA (uJ l i) ((n : Nat) : Int)) * 2) 0), (List.getD sp (((kA (uJ l i) ((n : Nat) : Int)) * 2) + 1) 0)] : List Int)) (k + 1)
   refine kL (.no :: .call [] (.tup [.agg [.d (dl (fU (o ++ ([(List.getD sp ((kA (uJ l i) (n : Int)) * 2) 0), (List.getD sp (((kA (uJ l i) (n : Int)) * 2) + 1) 0)] : List Int)) (k + 1)) (vY (o ++ ([(List.getD sp ((kA (uJ l i) (n : Int)) * 2) 0), (List.getD sp (((kA (uJ l i) (n : Int)) * 2) + 1) 0)] : List Int)) (k + 1)))], iE (oL (o ++ ([(List.getD sp ((kA (uJ l i) (n : Int)) * 2) 0), (List.getD sp (((kA (uJ l i) (n : Int)) * 2) + 1) 0)] : List Int)) (k + 1))]) [] 0 [] none :: qA 6 []) _ [(4, rV 1 0), (8, rV 6 0)] [(0, some (95, .ds [db (kC (uJ l i) ↑n) (List.length (kC (uJ l i) ↑n))])), (1, some (56, .ds [k9])), (6, some (56, .ds [dl (fU (o ++ ([(List.getD sp ((kA (uJ l i) ↑n) * 2) 0), (List.getD sp (((kA (uJ l i) ↑n) * 2) + 1) 0)] : List Int)) (k + 1)) (vY (o ++ ([(List.getD sp ((kA (uJ l i) ↑n) * 2) 0), (List.getD sp (((kA (uJ l i) ↑n) * 2) + 1) 0)] : List Int)) (k + 1))]))] 7 (k2c (o ++ ([(List.getD sp ((kA (uJ l i) (n : Int)) * 2) 0), (List.getD sp (((kA (uJ l i) (n : Int)) * 2) + 1) 0)] : List Int)) (k + 1) (by first | omega | with_reducible assumption | (simp only [qC, qB, List.length_append, List.length_cons, List.length_nil, List.length_take, List.length_drop, List.length_replicate, List.length_set] <;> omega) | rfl | assumption) zo) ?_
   refine kL [.no, .no] True [(4, rV 1 0)] [(0, some (95, .ds [db (kC (uJ l i) ↑n) (List.length (kC (uJ l i) ↑n))])), (1, some (56, .ds [dl (fU (o ++ ([(List.getD sp ((kA (uJ l i) ↑n) * 2) 0), (List.getD sp (((kA (uJ l i) ↑n) * 2) + 1) 0)] : List Int)) (k + 1)) (vY (o ++ ([(List.getD sp ((kA (uJ l i) ↑n) * 2) 0), (List.getD sp (((kA (uJ l i) ↑n) * 2) + 1) 0)] : List Int)) (k + 1))]))] 7 trivial ?_
   obtain ⟨hz1, hz2, hz3⟩ := u6m hS (show i = n by omega) ho zo
   refine AW.ret ?_
   exact kD (.inr rfl) [] (P := (((dI .i64 (fU (aX sp l n) (a6 sp l n))) : List D) = (dI .i64 (fU (o ++ ([(List.getD sp ((kA (uJ l i) (n : Int)) * 2) 0), (List.getD sp (((kA (uJ l i) (n : Int)) * 2) + 1) 0)] : List Int)) (k + 1)))) ∧ (((vY (aX sp l n) (a6 sp l n)) : Nat) = (vY (o ++ ([(List.getD sp ((kA (uJ l i) (n : Int)) * 2) 0), (List.getD sp (((kA (uJ l i) (n : Int)) * 2) + 1) 0)] : List Int)) (k + 1))) ∧ (([db (yQ sp l n) (List.length (yQ sp l n))] : List D) = [db (kC (uJ l i) (n : Int)) (List.length (kC (uJ l i) (n : Int)))])) zk ⟨(by first | rfl | (rw [hz1, hz3]; done) | (rw [hz1, hz3]; rfl) | (rw [hz2]; done) | (rw [hz2]; rfl)), (by first | rfl | (rw [hz1, hz3]; done) | (rw [hz2]; done) | omega), (by first | rfl | (rw [hz1, hz3]; done) | (rw [hz1, hz3]; rfl) | (rw [hz2]; done) | (rw [hz2]; rfl))⟩
  ·refine kL [.no, .no, .b false] (¬ ((k : Int) = 0)) [(0, rV 0 0), (1, sV .i64 sp n), (4, rV 1 0), (5, oV 3 0 k 2), (26, bV false)] [(0, some (95, (dA l i))), (1, some (56, .ds [k9])), (3, some (77, .ds (dI .i64 o)))] 4 zo ?_
   refine uB ?_
   refine AW.freeze 3 (l' := [(0, rV 0 0), (1, sV .i64 sp n), (4, rV 1 0), (5, sV .i64 o k), (26, bV false)]) (g' := [(0, some (95, (dA l i))), (1, some (56, .ds [k9]))]) rfl (FzS.cons rfl (.same _) (FzS.cons rfl (.same _) (FzS.cons rfl (.same _) (FzS.cons rfl (.e (.c (@FzC.own 3 ((dI .i64 o) : List D) 0 k 2 true ((dI .i64 o) : List D) (by rw [List.drop_zero, List.take_of_length_le (by first | omega | (simp only [qC, qB, qX, List.length_append, List.length_cons, List.length_nil, List.length_take, List.length_drop, List.length_replicate, List.length_set, List.length_map, List.length_reverse, Nat.mul_one] <;> omega))]) v7))) (FzS.cons rfl (.same _) FzS.nil))))) (qO rfl rfl (qO rfl rfl FzG.nil)) ?_
   have hx14 : ((List.length (fU o k)) = ((vY o k) * 2)) := mO o k
   have hx15 : ((((0 : Int) ≤ (oL o k)) ∧ ((oL o k) ≤ 3)) ∧ ((vY o k) ≤ 64)) := r5 o k
   refine kL (.no :: .call [] (.tup [.agg [.d (dl (fU o k) (vY o k))], iE (oL o k)]) [] 0 [] none :: qA 6 []) _ [(4, rV 1 0), (8, rV 4 0)] [(0, some (95, (dA l i))), (1, some (56, .ds [k9])), (4, some (56, .ds [dl (fU o k) (vY o k)]))] 5 (k2c o k zo zo) ?_
   refine kL [.no, .no] True [(4, rV 1 0)] [(0, some (95, (dA l i))), (1, some (56, .ds [dl (fU o k) (vY o k)]))] 5 trivial ?_
   obtain ⟨hz1, hz2, hz3⟩ := u6l hS (show i = n by omega) ho zo
   refine AW.ret ?_
   exact kD (.inr rfl) [] (P := (((dI .i64 (fU (aX sp l n) (a6 sp l n))) : List D) = (dI .i64 (fU o k))) ∧ (((vY (aX sp l n) (a6 sp l n)) : Nat) = (vY o k)) ∧ (([db (yQ sp l n) (List.length (yQ sp l n))] : List D) = [db (uJ l i) (List.length (uJ l i))])) zk ⟨(by first | rfl | (rw [hz1, hz3]; done) | (rw [hz1, hz3]; rfl) | (rw [hz2]; done) | (rw [hz2]; rfl)), (by first | rfl | (rw [hz1, hz3]; done) | (rw [hz2]; done) | omega), (by first | rfl | (rw [hz1, hz3]; done) | (rw [hz1, hz3]; rfl) | (rw [hz2]; done) | (rw [hz2]; rfl))⟩
end Go.Proofs.YtcfmjpnffembpaaGreat
