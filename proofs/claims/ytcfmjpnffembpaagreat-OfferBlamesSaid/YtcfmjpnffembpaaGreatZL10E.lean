/- Merged texts. -/
import Derived.Test.YtcfmjpnffembpaaGreatZLBy
import Derived.Test.YtcfmjpnffembpaaGreatZL10D
namespace Go.Proofs.YtcfmjpnffembpaaGreat
open Go.ChangeShapes Go.WideShapes Go.ChangeAt Go.RowKit
set_option linter.unusedVariables false
set_option linter.unusedSimpArgs false
set_option maxHeartbeats 4000000
set_option maxRecDepth 100000
def kD (l : List Int) (n : Int) : Nat := if l.length = 0 ∨ n ≤ 1 then 0 else (List.getD l 0 0 % n).toNat
def kB (l : List Int) (n : Int) : List Int := if l.length = 0 ∨ n ≤ 1 then l else List.drop 1 l
theorem eB {l : List Int} {n : Int} (h : l.length = 0 ∨ n ≤ 1) : ((kD l n : Nat) : Int) = 0 := by unfold kD; rw [if_pos h]; rfl
theorem cM {l : List Int} {n : Int} (h : l.length = 0 ∨ n ≤ 1) : kB l n = l := if_pos h
theorem j6 {l : List Int} {n : Int} (hb : Byt l) (h : ¬ (l.length = 0 ∨ n ≤ 1)) : ((kD l n : Nat) : Int) = List.getD l 0 0 % n := by
  unfold kD; rw [if_neg h]; exact Int.toNat_of_nonneg (Int.emod_nonneg _ (by omega))
theorem eC {l : List Int} {n : Int} (h : ¬ (l.length = 0 ∨ n ≤ 1)) : kB l n = List.drop 1 l := if_neg h
theorem qH {l : List Int} (n : Int) (h : Byt l) : Byt (kB l n) := by
  unfold kB; split
  · exact h
  · exact h.drop 1
theorem qP (l : List Int) (n : Int) (h : Byt l) : (((kD l n : Nat) : Int) < n ∨ kD l n = 0) ∧ kD l n ≤ 255 := by
  by_cases hn : l.length = 0 ∨ n ≤ 1
  · have := eB hn; omega
  · have e0 := j6 h hn
    have h0 := Byt.at h 0 (by omega)
    have e3 := Int.emod_lt_of_pos (List.getD l 0 0) (b := n) (by omega)
    have e1 := Int.mul_ediv_add_emod (List.getD l 0 0) n
    have e2 : 0 ≤ n * (List.getD l 0 0 / n) := Int.mul_nonneg (by omega) (Int.ediv_nonneg h0.1 (by omega))
    omega
theorem u19 (l : List Int) (n : Nat) (hn : List.length l = n) (hb : n ≤ 9223372036854775807) : Fun 36 [.c (.d (D.sl (dI .u8 l) n))] (kH []) 0 (rV 0 0) (kH [(0, some (95, .ds [D.sl (dI .u8 (List.take (min n 300) l)) (List.length (List.take (min n 300) l))]))]) 1 := by
  refine Fun.mk (n := 10) Tryz.func36 rfl rfl (Nat.le_of_ble_eq_true rfl) ?_
  intro cx hcx
  refine kK [.no] True [(0, sV .u8 l n)] [] 0 trivial ?_
  refine kK (qE 4 [.sls 0 (min n 300) (min n 300) (dI .u8 (List.take (min n 300) l)), .no, .no, .no]) ((kJ 0) ∧ (((min (n : Int) 300) : Int) = (((min n 300) : Nat) : Int)) ∧ ((0 : Nat) ≤ (min n 300)) ∧ ((min n 300) ≤ n) ∧ ((min n 300) - 0 = (min n 300)) ∧ (List.take ((min n 300) * 1) (List.drop (0 * 1) (dI .u8 l)) = (dI .u8 (List.take (min n 300) l)))) [(2, rV 0 0)] [(0, some (95, .ds [db (List.take (min n 300) l) (min n 300)]))] 1 ⟨rfl, (by first | rfl | omega), zo, zo, zo, (by first | rfl | with_reducible assumption | exact yN _ _ _ | exact u03 _ _ _ | (simp only [dL, aQ, yN, Nat.mul_one, Nat.zero_mul, List.drop_zero, List.nil_append, List.append_nil]; done) | (simp only [dL, aQ, yN, Nat.mul_one, Nat.zero_mul, List.drop_zero, List.nil_append, List.append_nil]; rfl) | (rw [List.take_of_length_le (by simp only [uN, qQ, List.length_drop, List.length_replicate, Nat.mul_one] <;> omega)]; first | rfl | (simp only [aQ, Nat.mul_one, Nat.zero_mul, List.drop_zero]; done) | (simp only [aQ, Nat.mul_one, Nat.zero_mul, List.drop_zero]; rfl)))⟩ ?_
  refine AW.ret ?_
  exact kA (.inr rfl) [] (P := (kJ 0) ∧ (([db (List.take (min n 300) l) (List.length (List.take (min n 300) l))] : List D) = [db (List.take (min n 300) l) (min n 300)])) zk ⟨rfl, (by have e9 : (List.take (min n 300) l).length = min n 300 := (by rw [List.length_take]; omega); rw [e9])⟩
theorem uS (l : List Int) (n : Int) (hb : Byt l) : Fun 38 [.c (.ptr 0 0), iE n] (kH [(0, some (95, .ds [D.sl (dI .u8 l) (List.length l)]))]) 1 (iV (((kD l n) : Nat) : Int)) (kH [(0, some (95, .ds [D.sl (dI .u8 (kB l n)) (List.length (kB l n))]))]) 1 := by
  refine Fun.mk (n := 34) Tryz.func38 rfl rfl (Nat.le_of_ble_eq_true rfl) ?_
  intro cx hcx
  refine kK [.no] True [(0, rV 0 0), (1, iV n)] [(0, some (95, .ds [db l (List.length l)]))] 1 trivial ?_
  refine AW.seq ?_
  by_cases hx1 : ((((List.length l) : Nat) : Int) = 0)
  · refine zr (qE 5 [.b true, .no, .no]) [0, 1, 15] [0] (((List.length l : Int) = 0)) [(0, rV 0 0), (1, iV n), (15, bV true)] [(0, some (95, .ds [db l (List.length l)]))] 1 zo ?_
    refine zt ?_
    refine kK [.no] True [(4, iV 0)] [(0, some (95, .ds [db l (List.length l)]))] 1 trivial ?_
    refine AW.ret ?_
    exact kA (.inr rfl) [] (P := (((kD l n : Int) : Int) = 0) ∧ (([db (kB l n) (List.length (kB l n))] : List D) = [db l (List.length l)])) zk ⟨(by first | rfl | exact eB zo | exact j6 hb zo | (rw [cM (by omega)]) | (rw [eC (by omega), List.length_drop])), (by first | rw [cM (by omega)] | rw [eC (by omega), List.length_drop])⟩
  · by_cases hx2 : (n ≤ 1)
    · refine zr (qE 5 [.b false, .no, .no, .b true, .no]) [0, 1, 15] [0] ((¬ ((List.length l : Int) = 0)) ∧ ((n ≤ 1))) [(0, rV 0 0), (1, iV n), (15, bV true)] [(0, some (95, .ds [db l (List.length l)]))] 1 ⟨zo, zo⟩ ?_
      refine zt ?_
      refine kK [.no] True [(4, iV 0)] [(0, some (95, .ds [db l (List.length l)]))] 1 trivial ?_
      refine AW.ret ?_
      exact kA (.inr rfl) [] (P := (((kD l n : Int) : Int) = 0) ∧ (([db (kB l n) (List.length (kB l n))] : List D) = [db l (List.length l)])) zk ⟨(by first | rfl | exact eB zo | exact j6 hb zo | (rw [cM (by omega)]) | (rw [eC (by omega), List.length_drop])), (by first | rw [cM (by omega)] | rw [eC (by omega), List.length_drop])⟩
    · refine zr (qE 5 [.b false, .no, .no, .b false, .no]) [0, 1, 15] [0] ((¬ ((List.length l : Int) = 0)) ∧ (¬ (n ≤ 1))) [(0, rV 0 0), (1, iV n), (15, bV false)] [(0, some (95, .ds [db l (List.length l)]))] 1 ⟨zo, zo⟩ ?_
      refine q8 ?_
      have hx3 : 0 ≤ (List.getD l 0 0) ∧ (List.getD l 0 0) ≤ 255 := hb.at 0 zo
      refine kK (qE 4 [.n 0, .d (D.lit (.int .u8 (List.getD l 0 0))), .w, .no]) ((kN 0) ∧ ((0 : Nat) < (List.length l)) ∧ ((List.drop 0 (dI .u8 l))[0]? = some (D.lit (.int .u8 (List.getD l 0 0)))) ∧ ((-9223372036854775808) ≤ (List.getD l 0 0) ∧ (List.getD l 0 0) ≤ 9223372036854775807)) [(0, rV 0 0), (1, iV n), (5, iV (List.getD l 0 0))] [(0, some (95, .ds [db l (List.length l)]))] 1 ⟨rfl, zo, (q6 _ _ _ (by first | omega | (simp only [uN, qQ, List.length_append, List.length_cons, List.length_nil, List.length_take, List.length_drop, List.length_replicate, List.length_set, List.length_map, List.length_reverse, Nat.mul_one] <;> omega) | rfl)), ⟨by omega, by omega⟩⟩ ?_
      refine kK (qE 5 [.sls 1 (List.length l) ((List.length l) - 1) (dI .u8 (List.drop 1 l)), .no, .no, .no]) ((kN 1) ∧ ((List.length l) = (List.length l)) ∧ ((1 : Nat) ≤ (List.length l)) ∧ ((List.length l) ≤ (List.length l)) ∧ ((List.length l) - 1 = ((List.length l) - 1)) ∧ (List.take (((List.length l) - 1) * 1) (List.drop (1 * 1) (dI .u8 l)) = (dI .u8 (List.drop 1 l)))) [(1, iV n), (5, iV (List.getD l 0 0))] [(0, some (95, .ds [db (List.drop 1 l) ((List.length l) - 1)]))] 1 ⟨rfl, rfl, zo, zo, zo, (by first | rfl | with_reducible assumption | exact yN _ _ _ | exact u03 _ _ _ | (simp only [dL, aQ, yN, Nat.mul_one, Nat.zero_mul, List.drop_zero, List.nil_append, List.append_nil]; done) | (simp only [dL, aQ, yN, Nat.mul_one, Nat.zero_mul, List.drop_zero, List.nil_append, List.append_nil]; rfl) | (rw [List.take_of_length_le (by simp only [uN, qQ, List.length_drop, List.length_replicate, Nat.mul_one] <;> omega)]; first | rfl | (simp only [aQ, Nat.mul_one, Nat.zero_mul, List.drop_zero]; done) | (simp only [aQ, Nat.mul_one, Nat.zero_mul, List.drop_zero]; rfl)))⟩ ?_
      refine kO [.no, .no, .ps, .no] (((0 : Int) ≤ ((List.getD l 0 0) : Int)) ∧ ((0 : Int) < (n : Int))) [(4, iV ((List.getD l 0 0) % n))] ⟨zo, zo⟩ ?_
      refine AW.ret ?_
      exact kA (.inr rfl) [] (P := (((kD l n : Int) : Int) = ((List.getD l 0 0) % n)) ∧ (([db (kB l n) (List.length (kB l n))] : List D) = [db (List.drop 1 l) ((List.length l) - 1)])) zk ⟨(by first | rfl | exact eB zo | exact j6 hb zo | (rw [cM (by omega)]) | (rw [eC (by omega), List.length_drop])), (by first | rw [cM (by omega)] | rw [eC (by omega), List.length_drop])⟩
end Go.Proofs.YtcfmjpnffembpaaGreat
namespace Go.Proofs.YtcfmjpnffembpaaGreat
open Go.ChangeShapes Go.WideShapes Go.ChangeAt Go.RowKit
set_option linter.unusedVariables false
set_option linter.unusedSimpArgs false
/-! chapter 10: boxes out of dice -/
set_option maxHeartbeats 4000000
set_option maxRecDepth 100000
def pC : List (List Int) := [[3], [1, 2], [1, 2, 3, 4, 5, 6], [2, 1], [1, 2, 7, 8], [4], [1, 3]]
theorem u9x : MsW pC := fun l h => by
 have h1 : ∀ l ∈ pC, List.length l ≤ 6 := by decide
 have := h1 l h; omega
def yG (l : List Int) : List Int := List.getD pC (kD l 7) []
def uH (l : List Int) : Nat → List Int
 | 0 => l
 | i + 1 => kB (uH l i) 2
def tU (sp l : List Int) : Nat → List Int
 | 0 => []
 | i + 1 => if kD (uH l i) 2 = 1 then tU sp l i ++ [List.getD sp (i * 2) 0, List.getD sp (i * 2 + 1) 0] else tU sp l i
theorem y3 {l : List Int} (h : Byt l) : ∀ i, Byt (uH l i)
 | 0 => h
 | i + 1 => qH _ (y3 h i)
theorem u8o {sp l : List Int} {i : Nat} {o : List Int} (h : tU sp l i = o) (h1 : kD (uH l i) 2 = 1) : tU sp l (i + 1) = o ++ [List.getD sp (i * 2) 0, List.getD sp (i * 2 + 1) 0] := by
 subst h; exact if_pos h1
theorem u8p {sp l : List Int} {i : Nat} {o : List Int} (h : tU sp l i = o) (h1 : ¬ kD (uH l i) 2 = 1) : tU sp l (i + 1) = o := by
 subst h; exact if_neg h1
def aZ (sp l : List Int) (n : Nat) : List Int := if tU sp l n = [] then [List.getD sp (kD (uH l n) (n : Int) * 2) 0, List.getD sp (kD (uH l n) (n : Int) * 2 + 1) 0] else tU sp l n
def yW (sp l : List Int) (n : Nat) : List Int := if tU sp l n = [] then kB (uH l n) (n : Int) else uH l n
def aU (sp l : List Int) (n : Nat) : Nat := (aZ sp l n).length / 2
theorem aP {sp l : List Int} {n : Nat} (h : Byt l) : Byt (yW sp l n) := by unfold yW; split; exact qH _ (y3 h n); exact y3 h n
theorem v1z {sp l o : List Int} {n k i : Nat} (h : tU sp l i = o) (hi : i = n) (hl : o.length = k * 2) (hk : k = 0) : aZ sp l n = o ++ [List.getD sp (kD (uH l i) (n : Int) * 2) 0, List.getD sp (kD (uH l i) (n : Int) * 2 + 1) 0] ∧ yW sp l n = kB (uH l i) (n : Int) ∧ aU sp l n = k + 1 := by
 subst hi; subst hk
 have h2 : o = [] := List.eq_nil_of_length_eq_zero (by omega)
 have h0 : tU sp l i = [] := by rw [h, h2]
 have h1 : aZ sp l i = [List.getD sp (kD (uH l i) (i : Int) * 2) 0, List.getD sp (kD (uH l i) (i : Int) * 2 + 1) 0] := if_pos h0
 refine ⟨by rw [h1, h2]; rfl, if_pos h0, ?_⟩
 unfold aU; rw [h1, List.length_cons, List.length_cons, List.length_nil]
theorem v1y {sp l o : List Int} {n k i : Nat} (h : tU sp l i = o) (hi : i = n) (hl : o.length = k * 2) (hk : 1 ≤ k) : aZ sp l n = o ∧ yW sp l n = uH l i ∧ aU sp l n = k := by
 subst hi
 have h0 : ¬ tU sp l i = [] := fun e => by rw [h] at e; rw [e] at hl; have : (0 : Nat) = k * 2 := hl; omega
 have h1 : aZ sp l i = o := by unfold aZ; rw [if_neg h0, h]
 refine ⟨h1, if_neg h0, ?_⟩
 unfold aU; rw [h1, hl]; omega
theorem wK (l : List Int) : List.length (yG l) ≤ 6 := by
 have h1 : ∀ l ∈ pC, List.length l ≤ 6 := by decide
 unfold yG
 rw [List.getD_eq_getElem?_getD]
 cases e : pC[kD l 7]? with
 | none => exact Nat.zero_le _
 | some x => exact h1 x (List.mem_of_getElem? e)
theorem k3s {l : List Int} (h : Byt l) : 1 ≤ List.length (yG l) ∧ List.length (yG l) ≤ 6 := by
 refine ⟨?_, wK l⟩
 have h1 : ∀ x ∈ pC, 1 ≤ List.length x := by decide
 have h2 := qP l 7 h
 have h3 : kD l 7 < pC.length := by show _ < 7; omega
 unfold yG
 rw [List.getD_eq_getElem?_getD, List.getElem?_eq_getElem h3]
 exact h1 _ (List.getElem_mem h3)
theorem aG {p : Prop} (h : p := by first | omega | (simp only [qC, qB, qQ, List.length_append, List.length_cons, List.length_nil, List.length_take, List.length_drop, List.length_replicate, List.length_set, List.length_map, List.length_reverse, Nat.mul_one] <;> omega) | rfl) : p := h
theorem u8b   : Fun 99 [] (kH []) 0 (kG (kI pC) 7) (kH []) 0 := by
 refine Fun.mk (n := 9) Tryz.func99 rfl rfl (Nat.le_of_ble_eq_true rfl) ?_
 intro cx hcx
 refine kK [.no] True [] [] 0 trivial ?_
 refine kK [(.fz (.no)), (.fz (.no)), (.fz (.no)), (.fz (.no)), (.fz (.no)), (.fz (.no)), (.fz (.no)), .no, .no] ((([iD 3] : List D).length = 1 * 1) ∧ (([iD 1, iD 2] : List D).length = 2 * 1) ∧ (([iD 1, iD 2, iD 3, iD 4, iD 5, iD 6] : List D).length = 6 * 1) ∧ (([iD 2, iD 1] : List D).length = 2 * 1) ∧ (([iD 1, iD 2, iD 7, iD 8] : List D).length = 4 * 1) ∧ (([iD 4] : List D).length = 1 * 1) ∧ (([iD 1, iD 3] : List D).length = 2 * 1)) [(0, oV 7 0 7 1)] [(7, some (23, .ds [D.sl [iD 3] 1, D.sl [iD 1, iD 2] 2, D.sl [iD 1, iD 2, iD 3, iD 4, iD 5, iD 6] 6, D.sl [iD 2, iD 1] 2, D.sl [iD 1, iD 2, iD 7, iD 8] 4, D.sl [iD 4] 1, D.sl [iD 1, iD 3] 2]))] 8 ⟨aG, aG, aG, aG, aG, aG, aG⟩ ?_
 refine AW.freeze 7 (l' := [(0, kG [D.sl [iD 3] 1, D.sl [iD 1, iD 2] 2, D.sl [iD 1, iD 2, iD 3, iD 4, iD 5, iD 6] 6, D.sl [iD 2, iD 1] 2, D.sl [iD 1, iD 2, iD 7, iD 8] 4, D.sl [iD 4] 1, D.sl [iD 1, iD 3] 2] 7)]) (g' := []) rfl (FzS.cons rfl (.e (.c (@FzC.own 7 ([D.sl [iD 3] 1, D.sl [iD 1, iD 2] 2, D.sl [iD 1, iD 2, iD 3, iD 4, iD 5, iD 6] 6, D.sl [iD 2, iD 1] 2, D.sl [iD 1, iD 2, iD 7, iD 8] 4, D.sl [iD 4] 1, D.sl [iD 1, iD 3] 2] : List D) 0 (7 : Nat) 1 true ([D.sl [iD 3] 1, D.sl [iD 1, iD 2] 2, D.sl [iD 1, iD 2, iD 3, iD 4, iD 5, iD 6] 6, D.sl [iD 2, iD 1] 2, D.sl [iD 1, iD 2, iD 7, iD 8] 4, D.sl [iD 4] 1, D.sl [iD 1, iD 3] 2] : List D) (by rw [List.drop_zero, Nat.mul_one, List.take_of_length_le (by first | omega | (simp only [qC, qB, qQ, List.length_append, List.length_cons, List.length_nil, List.length_take, List.length_drop, List.length_replicate, List.length_set, List.length_map, List.length_reverse, Nat.mul_one] <;> omega))]) aG))) FzS.nil) FzG.nil ?_
 refine AW.ret ?_
 exact kA (.inr rfl) [] (P := (((kI pC) : List D) = [D.sl [iD 3] 1, D.sl [iD 1, iD 2] 2, D.sl [iD 1, iD 2, iD 3, iD 4, iD 5, iD 6] 6, D.sl [iD 2, iD 1] 2, D.sl [iD 1, iD 2, iD 7, iD 8] 4, D.sl [iD 4] 1, D.sl [iD 1, iD 3] 2]) ∧ (kJ 7)) zk ⟨(by first | rfl | decide), rfl⟩
theorem u5g (l : List Int) (hb : Byt l) : Fun 58 [.c (.ptr 0 0)] (kH [(0, some (95, .ds [D.sl (dI .u8 l) (List.length l)]))]) 1 (sV .i64 (yG l) (List.length (yG l))) (kH [(0, some (95, .ds [D.sl (dI .u8 (kB l 7)) (List.length (kB l 7))]))]) 1 := by
 refine Fun.mk (n := 8) Tryz.func58 rfl rfl (Nat.le_of_ble_eq_true rfl) ?_
 intro cx hcx
 refine kK [.no] True [(0, rV 0 0)] [(0, some (95, .ds [db l (List.length l)]))] 1 trivial ?_
 have hx1 : ((((((kD l 7) : Nat) : Int) < 7) ∨ ((kD l 7) = 0)) ∧ ((kD l 7) ≤ 255)) := qP l (7 : Int) (qD : Byt l)
 have hx2 : (Byt (kB l 7)) := qH (7 : Int) (qD : Byt l)
 have hx3 : ((List.length (List.getD pC (kD l 7) ([] : List Int))) ≤ 1000000) := MsW.at u9x _
 refine kK [.call [] (kG (kI pC) 7) [] 0 [] none, .no, .call [0] (uV (kD l 7)) [(0, some (95, .ds [db (kB l 7) (List.length (kB l 7))]))] 1 [] none, .n (kD l 7), .d (dl (List.getD pC (kD l 7) ([] : List Int)) (List.length (List.getD pC (kD l 7) ([] : List Int)))), .no] ((_) ∧ (_) ∧ (kN (kD l 7 : Int)) ∧ ((kD l 7) < 7) ∧ ((List.drop (kD l 7) (kI pC))[0]? = some (dl (List.getD pC (kD l 7) ([] : List Int)) (List.length (List.getD pC (kD l 7) ([] : List Int)))))) [(2, sV .i64 (List.getD pC (kD l 7) ([] : List Int)) (List.length (List.getD pC (kD l 7) ([] : List Int))))] [(0, some (95, .ds [db (kB l 7) (List.length (kB l 7))]))] 1 ⟨(u8b), (uS l 7 (qD : Byt l)), rfl, zo, (vQ _ _ (by show _ < 7; omega))⟩ ?_
 refine AW.ret ?_
 exact kA (.inr rfl) [] (P := (((dI .i64 (yG l)) : List D) = (dI .i64 (List.getD pC (kD l 7) ([] : List Int)))) ∧ (((List.length (yG l)) : Nat) = (List.length (List.getD pC (kD l 7) ([] : List Int)))) ∧ (kM [db (kB l 7) (List.length (kB l 7))])) zk ⟨(by first | rfl | decide), (by first | omega | rfl | assumption | (simp; done) | (simp; omega)), rfl⟩
abbrev dX (l : List Int) (i : Nat) : BC := .ds [D.sl (dI .u8 (uH l i)) (List.length (uH l i))]
abbrev mF (l : List Int) (i : Nat) : BC := .ds [D.sl (dI .u8 (kB (uH l i) 2)) (List.length (kB (uH l i) 2))]
theorem u5f (sp : List Int) (n : Nat) (l : List Int) (hl : List.length sp = n * 2) (h1 : 1 ≤ n) (h2 : n ≤ 1000) (hb : Byt l) : Fun 123 [.c (.ptr 0 0), .c (.d (D.sl (dI .i64 sp) n))] (kH [(0, some (95, .ds [D.sl (dI .u8 l) (List.length l)]))]) 1 (.e (.agg [.d (D.sl (dI .i64 (fM (aZ sp l n) (aU sp l n))) (vS (aZ sp l n) (aU sp l n)))])) (kH [(0, some (95, .ds [D.sl (dI .u8 (yW sp l n)) (List.length (yW sp l n))]))]) 1 := by
 refine Fun.mk (n := 43) Tryz.func123 rfl rfl (Nat.le_of_ble_eq_true rfl) ?_
 intro cx hcx
 refine kK [.no] True [(0, rV 0 0), (1, sV .i64 sp n), (4, rV 1 0)] [(0, some (95, .ds [db l (List.length l)])), (1, some (56, .ds [qT]))] 2 trivial ?_
 refine kO [.no] True [(0, rV 0 0), (1, sV .i64 sp n), (4, rV 1 0), (5, nV)] trivial ?_
 refine AW.seq ?_
 refine kO [.no, .no, .no] True [(0, rV 0 0), (1, sV .i64 sp n), (4, rV 1 0), (5, nV), (10, sV .i64 sp n), (11, uV n), (12, iV 0)] trivial ?_
 refine AW.block ?_
 refine AW.adoptS 5 2 77 rfl ?_
 refine kY 1 hcx (fun (x : {x : Nat × Nat × List Int // match x with | (i, k, o) => (i ≤ n ∧ k ≤ i) ∧ (tU sp l i = o) ∧ (List.length o = k * 2)}) => match x with | ⟨(i, k, o), _⟩ => (⟨[(0, rV 0 0), (1, sV .i64 sp n), (4, rV 1 0), (5, oV 3 0 k 2), (10, sV .i64 sp n), (11, uV n), (12, uV i)], [(0, some (95, (dX l i))), (1, some (56, .ds [qT])), (3, some (77, .ds (dI .i64 o)))], 4⟩ : ES)) (fun x => match x with | ⟨(i, k, o), _⟩ => n - i) ⟨((0 : Nat), (0 : Nat), (([] : List Int) : List Int)), ⟨(by first | omega | assumption | simp), rfl, rfl⟩⟩ [(3, 2)] (P := (kJ 0) ∧ (kM (dI .i64 sp)) ∧ (kJ n) ∧ (kJ 0) ∧ (kJ 0) ∧ (kJ 0) ∧ (kM (dI .i64 sp)) ∧ (kJ n) ∧ (kN (n : Int)) ∧ (kN 0) ∧ (([db (uH l 0) (List.length (uH l 0))] : List D) = [db l (List.length l)]) ∧ (kM [qT]) ∧ (((dI .i64 ([] : List Int)) : List D) = ([] : List D))) zk ⟨rfl, rfl, rfl, rfl, rfl, rfl, rfl, rfl, rfl, rfl, (by first | rfl | with_reducible assumption), rfl, (by first | rfl | with_reducible assumption)⟩ ?_
 rintro ⟨⟨i, k, o⟩, hinv0⟩
 obtain ⟨hi, hS, ho⟩ : (i ≤ n ∧ k ≤ i) ∧ (tU sp l i = o) ∧ (List.length o = k * 2) := hinv0
 refine qR (l := [(0, rV 0 0), (1, sV .i64 sp n), (4, rV 1 0), (5, oV 3 0 k 2), (10, sV .i64 sp n), (11, uV n), (12, uV i)]) (g := [(0, some (95, (dX l i))), (1, some (56, .ds [qT])), (3, some (77, .ds (dI .i64 o)))]) (nx := 4) rfl rfl rfl ?_
 by_cases hx1 : (((i : Nat) : Int) < ((n : Nat) : Int))
 ·refine kK [.b true] (((i : Int) < (n : Int))) [(0, rV 0 0), (1, sV .i64 sp n), (4, rV 1 0), (5, oV 3 0 k 2), (10, sV .i64 sp n), (11, uV n), (12, uV i), (13, bV true)] [(0, some (95, (dX l i))), (1, some (56, .ds [qT])), (3, some (77, .ds (dI .i64 o)))] 4 zo ?_
  refine AW.seq ?_
  refine vB ?_
  refine AW.seq ?_
  refine AW.block ?_
  refine kK [.n i, .ds [iD (List.getD sp (i * 2) 0), iD (List.getD sp ((i * 2) + 1) 0)], .no, .no] ((kN (i : Int)) ∧ (i < n) ∧ (List.take 2 (List.drop (i * 2) (dI .i64 sp)) = [iD (List.getD sp (i * 2) 0), iD (List.getD sp ((i * 2) + 1) 0)]) ∧ (([iD (List.getD sp (i * 2) 0), iD (List.getD sp ((i * 2) + 1) 0)] : List D).length = 2)) [(0, rV 0 0), (1, sV .i64 sp n), (4, rV 1 0), (5, oV 3 0 k 2), (7, rV 4 0), (10, sV .i64 sp n), (11, uV n), (12, uV i)] [(0, some (95, (dX l i))), (1, some (56, .ds [qT])), (3, some (77, .ds (dI .i64 o))), (4, some (77, .ds [iD (List.getD sp (i * 2) 0), iD (List.getD sp ((i * 2) + 1) 0)]))] 5 ⟨rfl, zo, (aM .i64 sp (i * 2) 2 aG), rfl⟩ ?_
  by_cases hx4 : ((((kD (uH l i) 2) : Nat) : Int) = 1)
  ·have hx5 : ((((((kD (uH l i) 2) : Nat) : Int) < 2) ∨ ((kD (uH l i) 2) = 0)) ∧ ((kD (uH l i) 2) ≤ 255)) := qP (uH l i) (2 : Int) ((y3 (qD : Byt l) _))
   have hx6 : (Byt (kB (uH l i) 2)) := qH (2 : Int) ((y3 (qD : Byt l) _))
   refine kK [.no, .call [0] (uV (kD (uH l i) 2)) [(0, some (95, (mF l i)))] 1 [] none, .b true] ((_) ∧ (((kD (uH l i) 2 : Int) = 1))) [(0, rV 0 0), (1, sV .i64 sp n), (4, rV 1 0), (5, oV 3 0 k 2), (7, rV 4 0), (10, sV .i64 sp n), (11, uV n), (12, uV i), (18, bV true)] [(0, some (95, (mF l i))), (1, some (56, .ds [qT])), (3, some (77, .ds (dI .i64 o))), (4, some (77, .ds [iD (List.getD sp (i * 2) 0), iD (List.getD sp ((i * 2) + 1) 0)]))] 5 ⟨(uS (uH l i) 2 (y3 (qD : Byt l) _)), zo⟩ ?_
   refine zt ?_
   refine aH [.no, .no, .no, .ap none (k + 1) (dI .i64 (o ++ ([(List.getD sp (i * 2) 0), (List.getD sp ((i * 2) + 1) 0)] : List Int))), .no] (([iD (List.getD sp (i * 2) 0), iD (List.getD sp ((i * 2) + 1) 0)].length = 1 * 2) ∧ (((dI .i64 o) : List D).length = k * 2) ∧ ((k + 1) * 16 ≤ 140737488355328) ∧ (k + 1 = (k + 1)) ∧ (((dI .i64 o) : List D) ++ [iD (List.getD sp (i * 2) 0), iD (List.getD sp ((i * 2) + 1) 0)] = (dI .i64 (o ++ ([(List.getD sp (i * 2) 0), (List.getD sp ((i * 2) + 1) 0)] : List Int))))) [(0, rV 0 0), (1, sV .i64 sp n), (4, rV 1 0), (5, oV 6 0 (k + 1) 2), (10, sV .i64 sp n), (11, uV n), (12, uV i)] [(0, some (95, (mF l i))), (1, some (56, .ds [qT])), (6, some (77, .ds (dI .i64 (o ++ ([(List.getD sp (i * 2) 0), (List.getD sp ((i * 2) + 1) 0)] : List Int)))))] 7 ⟨aG, aG, zo, zo, (yN .i64 o ([(List.getD sp (i * 2) 0), (List.getD sp ((i * 2) + 1) 0)] : List Int))⟩ ?_
   refine uT [.w, .no] ((-9223372036854775808) ≤ ((i : Int) + 1) ∧ ((i : Int) + 1) ≤ 9223372036854775807) [(0, rV 0 0), (1, sV .i64 sp n), (4, rV 1 0), (5, oV 6 0 (k + 1) 2), (10, sV .i64 sp n), (11, uV n), (12, iV (↑i + 1))] ⟨by omega, by omega⟩ ?_
   exact kW ⟨(((i + 1) : Nat), ((k + 1) : Nat), ((o ++ ([(List.getD sp (i * 2) 0), (List.getD sp ((i * 2) + 1) 0)] : List Int)) : List Int)), ⟨(by first | omega | assumption | simp), (by first | exact u8o hS zo | exact u8p hS zo), (by first | assumption | (simp only [qC, qB, List.length_append, List.length_cons, List.length_nil] <;> omega))⟩⟩ [(3, 6)] (P := (kJ 0) ∧ (kM (dI .i64 sp)) ∧ (kJ n) ∧ (kJ 0) ∧ (kJ 0) ∧ (kJ (k + 1)) ∧ (kM (dI .i64 sp)) ∧ (kJ n) ∧ (kN (n : Int)) ∧ (((((i + 1) : Nat) : Int) : Int) = ((i : Int) + 1)) ∧ (([db (uH l (i + 1)) (List.length (uH l (i + 1)))] : List D) = [db (kB (uH l i) 2) (List.length (kB (uH l i) 2))]) ∧ (kM [qT]) ∧ (kM (dI .i64 (o ++ ([(List.getD sp (i * 2) 0), (List.getD sp ((i * 2) + 1) 0)] : List Int))))) zk ⟨rfl, rfl, rfl, rfl, rfl, rfl, rfl, rfl, rfl, (by first | rfl | omega | assumption | (simp; done) | (simp; omega)), (by first | rfl | with_reducible assumption), rfl, rfl⟩ (show n - (i + 1) < n - i from (by first | omega | (show _ < _; simp; omega)))
  ·have hx7 : ((((((kD (uH l i) 2) : Nat) : Int) < 2) ∨ ((kD (uH l i) 2) = 0)) ∧ ((kD (uH l i) 2) ≤ 255)) := qP (uH l i) (2 : Int) ((y3 (qD : Byt l) _))
   have hx8 : (Byt (kB (uH l i) 2)) := qH (2 : Int) ((y3 (qD : Byt l) _))
   refine kK [.no, .call [0] (uV (kD (uH l i) 2)) [(0, some (95, (mF l i)))] 1 [] none, .b false] ((_) ∧ (¬ ((kD (uH l i) 2 : Int) = 1))) [(0, rV 0 0), (1, sV .i64 sp n), (4, rV 1 0), (5, oV 3 0 k 2), (7, rV 4 0), (10, sV .i64 sp n), (11, uV n), (12, uV i), (18, bV false)] [(0, some (95, (mF l i))), (1, some (56, .ds [qT])), (3, some (77, .ds (dI .i64 o))), (4, some (77, .ds [iD (List.getD sp (i * 2) 0), iD (List.getD sp ((i * 2) + 1) 0)]))] 5 ⟨(uS (uH l i) 2 (y3 (qD : Byt l) _)), zo⟩ ?_
   refine q8 ?_
   refine aH [.w, .no] ((-9223372036854775808) ≤ ((i : Int) + 1) ∧ ((i : Int) + 1) ≤ 9223372036854775807) [(0, rV 0 0), (1, sV .i64 sp n), (4, rV 1 0), (5, oV 3 0 k 2), (10, sV .i64 sp n), (11, uV n), (12, iV (↑i + 1))] [(0, some (95, (mF l i))), (1, some (56, .ds [qT])), (3, some (77, .ds (dI .i64 o)))] 5 ⟨by omega, by omega⟩ ?_
   exact kW ⟨(((i + 1) : Nat), (k : Nat), (o : List Int)), ⟨(by first | omega | assumption | simp), (by first | exact u8o hS zo | exact u8p hS zo), (by first | assumption | (simp only [qC, qB, List.length_append, List.length_cons, List.length_nil] <;> omega))⟩⟩ [] (P := (kJ 0) ∧ (kM (dI .i64 sp)) ∧ (kJ n) ∧ (kJ 0) ∧ (kJ 0) ∧ (kJ k) ∧ (kM (dI .i64 sp)) ∧ (kJ n) ∧ (kN (n : Int)) ∧ (((((i + 1) : Nat) : Int) : Int) = ((i : Int) + 1)) ∧ (([db (uH l (i + 1)) (List.length (uH l (i + 1)))] : List D) = [db (kB (uH l i) 2) (List.length (kB (uH l i) 2))]) ∧ (kM [qT]) ∧ (kM (dI .i64 o))) zk ⟨rfl, rfl, rfl, rfl, rfl, rfl, rfl, rfl, rfl, (by first | rfl | omega | assumption | (simp; done) | (simp; omega)), (by first | rfl | with_reducible assumption), rfl, rfl⟩ (show n - (i + 1) < n - i from (by first | omega | (show _ < _; simp; omega)))
 ·refine kK [.b false] (¬ ((i : Int) < (n : Int))) [(0, rV 0 0), (1, sV .i64 sp n), (4, rV 1 0), (5, oV 3 0 k 2), (10, sV .i64 sp n), (11, uV n), (12, uV i), (13, bV false)] [(0, some (95, (dX l i))), (1, some (56, .ds [qT])), (3, some (77, .ds (dI .i64 o)))] 4 zo ?_
  refine AW.seq ?_
  refine zf ?_
  refine AW.exit ?_
  refine AW.seq ?_
  by_cases hx9 : (((k : Nat) : Int) = 0)
  ·refine kK [.no, .no, .b true] (((k : Int) = 0)) [(0, rV 0 0), (1, sV .i64 sp n), (4, rV 1 0), (5, oV 3 0 k 2), (26, bV true)] [(0, some (95, (dX l i))), (1, some (56, .ds [qT])), (3, some (77, .ds (dI .i64 o)))] 4 zo ?_
   refine zt ?_
   have hx10 : ((((((kD (uH l i) ((n : Nat) : Int)) : Nat) : Int) < ((n : Nat) : Int)) ∨ ((kD (uH l i) ((n : Nat) : Int)) = 0)) ∧ ((kD (uH l i) ((n : Nat) : Int)) ≤ 255)) := qP (uH l i) ((n : Nat) : Int) ((y3 (qD : Byt l) _))
   have hx11 : (Byt (kB (uH l i) ((n : Nat) : Int))) := qH ((n : Nat) : Int) ((y3 (qD : Byt l) _))
   refine aH (qE 5 [.call [0] (uV (kD (uH l i) (n : Int))) [(0, some (95, .ds [db (kB (uH l i) (n : Int)) (List.length (kB (uH l i) (n : Int)))]))] 1 [] none, .n (kD (uH l i) (n : Int)), .ds [iD (List.getD sp ((kD (uH l i) (n : Int)) * 2) 0), iD (List.getD sp (((kD (uH l i) (n : Int)) * 2) + 1) 0)], .no, .ap none (k + 1) (dI .i64 (o ++ ([(List.getD sp ((kD (uH l i) (n : Int)) * 2) 0), (List.getD sp (((kD (uH l i) (n : Int)) * 2) + 1) 0)] : List Int))), .no]) ((_) ∧ (kN (((kD (uH l i) (n : Int)) : Nat) : Int)) ∧ ((kD (uH l i) (n : Int)) < n) ∧ (List.take 2 (List.drop ((kD (uH l i) (n : Int)) * 2) (dI .i64 sp)) = [iD (List.getD sp ((kD (uH l i) (n : Int)) * 2) 0), iD (List.getD sp (((kD (uH l i) (n : Int)) * 2) + 1) 0)]) ∧ (([iD (List.getD sp ((kD (uH l i) (n : Int)) * 2) 0), iD (List.getD sp (((kD (uH l i) (n : Int)) * 2) + 1) 0)] : List D).length = 2) ∧ ([iD (List.getD sp ((kD (uH l i) (n : Int)) * 2) 0), iD (List.getD sp (((kD (uH l i) (n : Int)) * 2) + 1) 0)].length = 1 * 2) ∧ (((dI .i64 o) : List D).length = k * 2) ∧ ((k + 1) * 16 ≤ 140737488355328) ∧ (k + 1 = (k + 1)) ∧ (((dI .i64 o) : List D) ++ [iD (List.getD sp ((kD (uH l i) (n : Int)) * 2) 0), iD (List.getD sp (((kD (uH l i) (n : Int)) * 2) + 1) 0)] = (dI .i64 (o ++ ([(List.getD sp ((kD (uH l i) (n : Int)) * 2) 0), (List.getD sp (((kD (uH l i) (n : Int)) * 2) + 1) 0)] : List Int))))) [(4, rV 1 0), (5, oV 5 0 (k + 1) 2)] [(0, some (95, .ds [db (kB (uH l i) ↑n) (List.length (kB (uH l i) ↑n))])), (1, some (56, .ds [qT])), (5, some (77, .ds (dI .i64 (o ++ ([(List.getD sp ((kD (uH l i) ↑n) * 2) 0), (List.getD sp (((kD (uH l i) ↑n) * 2) + 1) 0)] : List Int)))))] 6 ⟨(uS (uH l i) (n : Int) (y3 (qD : Byt l) _)), rfl, zo, (aM .i64 sp ((kD (uH l i) (n : Int)) * 2) 2 aG), rfl, aG, aG, zo, zo, (yN .i64 o ([(List.getD sp ((kD (uH l i) (n : Int)) * 2) 0), (List.getD sp (((kD (uH l i) (n : Int)) * 2) + 1) 0)] : List Int))⟩ ?_
   refine AW.freeze 5 (l' := [(4, rV 1 0), (5, sV .i64 (o ++ ([(List.getD sp ((kD (uH l i) (n : Int)) * 2) 0), (List.getD sp (((kD (uH l i) (n : Int)) * 2) + 1) 0)] : List Int)) (k + 1))]) (g' := [(0, some (95, .ds [db (kB (uH l i) (n : Int)) (List.length (kB (uH l i) (n : Int)))])), (1, some (56, .ds [qT]))]) rfl (FzS.cons rfl (.same _) (FzS.cons rfl (.e (.c (@FzC.own 5 ((dI .i64 (o ++ ([(List.getD sp ((kD (uH l i) (n : Int)) * 2) 0), (List.getD sp (((kD (uH l i) (n : Int)) * 2) + 1) 0)] : List Int))) : List D) 0 (k + 1) 2 true ((dI .i64 (o ++ ([(List.getD sp ((kD (uH l i) (n : Int)) * 2) 0), (List.getD sp (((kD (uH l i) (n : Int)) * 2) + 1) 0)] : List Int))) : List D) (by rw [List.drop_zero, List.take_of_length_le (by first | omega | (simp only [qC, qB, qQ, List.length_append, List.length_cons, List.length_nil, List.length_take, List.length_drop, List.length_replicate, List.length_set, List.length_map, List.length_reverse, Nat.mul_one] <;> omega))]) aG))) FzS.nil)) (qO rfl rfl (qO rfl rfl FzG.nil)) ?_
   have hx12 : ((List.length (fM (o ++ ([(List.getD sp ((kD (uH l i) ((n : Nat) : Int)) * 2) 0), (List.getD sp (((kD (uH l i) ((n : Nat) : Int)) * 2) + 1) 0)] : List Int)) (k + 1))) = ((vS (o ++ ([(List.getD sp ((kD (uH l i) ((n : Nat) : Int)) * 2) 0), (List.getD sp (((kD (uH l i) ((n : Nat) : Int)) * 2) + 1) 0)] : List Int)) (k + 1)) * 2)) := lA (o ++ ([(List.getD sp ((kD (uH l i) ((n : Nat) : Int)) * 2) 0), (List.getD sp (((kD (uH l i) ((n : Nat) : Int)) * 2) + 1) 0)] : List Int)) (k + 1)
   have hx13 : ((((0 : Int) ≤ (rL (o ++ ([(List.getD sp ((kD (uH l i) ((n : Nat) : Int)) * 2) 0), (List.getD sp (((kD (uH l i) ((n : Nat) : Int)) * 2) + 1) 0)] : List Int)) (k + 1))) ∧ ((rL (o ++ ([(List.getD sp ((kD (uH l i) ((n : Nat) : Int)) * 2) 0), (List.getD sp (((kD (uH l i) ((n : Nat) : Int)) * 2) + 1) 0)] : List Int)) (k + 1)) ≤ 3)) ∧ ((vS (o ++ ([(List.getD sp ((kD (uH l i) ((n : Nat) : Int)) * 2) 0), (List.getD sp (((kD (uH l i) ((n : Nat) : Int)) * 2) + 1) 0)] : List Int)) (k + 1)) ≤ 64)) := pD (o ++ ([(List.getD sp ((kD (uH l i) ((n : Nat) : Int)) * 2) 0), (List.getD sp (((kD (uH l i) ((n : Nat) : Int)) * 2) + 1) 0)] : List Int)) (k + 1)
   refine kK (.no :: .call [] (.tup [.agg [.d (dl (fM (o ++ ([(List.getD sp ((kD (uH l i) (n : Int)) * 2) 0), (List.getD sp (((kD (uH l i) (n : Int)) * 2) + 1) 0)] : List Int)) (k + 1)) (vS (o ++ ([(List.getD sp ((kD (uH l i) (n : Int)) * 2) 0), (List.getD sp (((kD (uH l i) (n : Int)) * 2) + 1) 0)] : List Int)) (k + 1)))], iE (rL (o ++ ([(List.getD sp ((kD (uH l i) (n : Int)) * 2) 0), (List.getD sp (((kD (uH l i) (n : Int)) * 2) + 1) 0)] : List Int)) (k + 1))]) [] 0 [] none :: qE 6 []) _ [(4, rV 1 0), (8, rV 6 0)] [(0, some (95, .ds [db (kB (uH l i) ↑n) (List.length (kB (uH l i) ↑n))])), (1, some (56, .ds [qT])), (6, some (56, .ds [dl (fM (o ++ ([(List.getD sp ((kD (uH l i) ↑n) * 2) 0), (List.getD sp (((kD (uH l i) ↑n) * 2) + 1) 0)] : List Int)) (k + 1)) (vS (o ++ ([(List.getD sp ((kD (uH l i) ↑n) * 2) 0), (List.getD sp (((kD (uH l i) ↑n) * 2) + 1) 0)] : List Int)) (k + 1))]))] 7 (k4l (o ++ ([(List.getD sp ((kD (uH l i) (n : Int)) * 2) 0), (List.getD sp (((kD (uH l i) (n : Int)) * 2) + 1) 0)] : List Int)) (k + 1) (by first | omega | with_reducible assumption | (simp only [qC, qB, List.length_append, List.length_cons, List.length_nil, List.length_take, List.length_drop, List.length_replicate, List.length_set] <;> omega) | rfl | assumption) zo) ?_
   refine kK [.no, .no] True [(4, rV 1 0)] [(0, some (95, .ds [db (kB (uH l i) ↑n) (List.length (kB (uH l i) ↑n))])), (1, some (56, .ds [dl (fM (o ++ ([(List.getD sp ((kD (uH l i) ↑n) * 2) 0), (List.getD sp (((kD (uH l i) ↑n) * 2) + 1) 0)] : List Int)) (k + 1)) (vS (o ++ ([(List.getD sp ((kD (uH l i) ↑n) * 2) 0), (List.getD sp (((kD (uH l i) ↑n) * 2) + 1) 0)] : List Int)) (k + 1))]))] 7 trivial ?_
   obtain ⟨hz1, hz2, hz3⟩ := v1z hS (show i = n by omega) ho zo
   refine AW.ret ?_
   exact kA (.inr rfl) [] (P := (((dI .i64 (fM (aZ sp l n) (aU sp l n))) : List D) = (dI .i64 (fM (o ++ ([(List.getD sp ((kD (uH l i) (n : Int)) * 2) 0), (List.getD sp (((kD (uH l i) (n : Int)) * 2) + 1) 0)] : List Int)) (k + 1)))) ∧ (((vS (aZ sp l n) (aU sp l n)) : Nat) = (vS (o ++ ([(List.getD sp ((kD (uH l i) (n : Int)) * 2) 0), (List.getD sp (((kD (uH l i) (n : Int)) * 2) + 1) 0)] : List Int)) (k + 1))) ∧ (([db (yW sp l n) (List.length (yW sp l n))] : List D) = [db (kB (uH l i) (n : Int)) (List.length (kB (uH l i) (n : Int)))])) zk ⟨(by first | rfl | (rw [hz1, hz3]; done) | (rw [hz1, hz3]; rfl) | (rw [hz2]; done) | (rw [hz2]; rfl)), (by first | rfl | (rw [hz1, hz3]; done) | (rw [hz2]; done) | omega), (by first | rfl | (rw [hz1, hz3]; done) | (rw [hz1, hz3]; rfl) | (rw [hz2]; done) | (rw [hz2]; rfl))⟩
  ·refine kK [.no, .no, .b false] (¬ ((k : Int) = 0)) [(0, rV 0 0), (1, sV .i64 sp n), (4, rV 1 0), (5, oV 3 0 k 2), (26, bV false)] [(0, some (95, (dX l i))), (1, some (56, .ds [qT])), (3, some (77, .ds (dI .i64 o)))] 4 zo ?_
   refine q8 ?_
   refine AW.freeze 3 (l' := [(0, rV 0 0), (1, sV .i64 sp n), (4, rV 1 0), (5, sV .i64 o k), (26, bV false)]) (g' := [(0, some (95, (dX l i))), (1, some (56, .ds [qT]))]) rfl (FzS.cons rfl (.same _) (FzS.cons rfl (.same _) (FzS.cons rfl (.same _) (FzS.cons rfl (.e (.c (@FzC.own 3 ((dI .i64 o) : List D) 0 k 2 true ((dI .i64 o) : List D) (by rw [List.drop_zero, List.take_of_length_le (by first | omega | (simp only [qC, qB, qQ, List.length_append, List.length_cons, List.length_nil, List.length_take, List.length_drop, List.length_replicate, List.length_set, List.length_map, List.length_reverse, Nat.mul_one] <;> omega))]) aG))) (FzS.cons rfl (.same _) FzS.nil))))) (qO rfl rfl (qO rfl rfl FzG.nil)) ?_
   have hx14 : ((List.length (fM o k)) = ((vS o k) * 2)) := lA o k
   have hx15 : ((((0 : Int) ≤ (rL o k)) ∧ ((rL o k) ≤ 3)) ∧ ((vS o k) ≤ 64)) := pD o k
   refine kK (.no :: .call [] (.tup [.agg [.d (dl (fM o k) (vS o k))], iE (rL o k)]) [] 0 [] none :: qE 6 []) _ [(4, rV 1 0), (8, rV 4 0)] [(0, some (95, (dX l i))), (1, some (56, .ds [qT])), (4, some (56, .ds [dl (fM o k) (vS o k)]))] 5 (k4l o k zo zo) ?_
   refine kK [.no, .no] True [(4, rV 1 0)] [(0, some (95, (dX l i))), (1, some (56, .ds [dl (fM o k) (vS o k)]))] 5 trivial ?_
   obtain ⟨hz1, hz2, hz3⟩ := v1y hS (show i = n by omega) ho zo
   refine AW.ret ?_
   exact kA (.inr rfl) [] (P := (((dI .i64 (fM (aZ sp l n) (aU sp l n))) : List D) = (dI .i64 (fM o k))) ∧ (((vS (aZ sp l n) (aU sp l n)) : Nat) = (vS o k)) ∧ (([db (yW sp l n) (List.length (yW sp l n))] : List D) = [db (uH l i) (List.length (uH l i))])) zk ⟨(by first | rfl | (rw [hz1, hz3]; done) | (rw [hz1, hz3]; rfl) | (rw [hz2]; done) | (rw [hz2]; rfl)), (by first | rfl | (rw [hz1, hz3]; done) | (rw [hz2]; done) | omega), (by first | rfl | (rw [hz1, hz3]; done) | (rw [hz1, hz3]; rfl) | (rw [hz2]; done) | (rw [hz2]; rfl))⟩
end Go.Proofs.YtcfmjpnffembpaaGreat
