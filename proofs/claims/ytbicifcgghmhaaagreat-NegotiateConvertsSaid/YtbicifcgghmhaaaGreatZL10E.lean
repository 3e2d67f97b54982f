/- Merged texts. -/
import Derived.Test.YtbicifcgghmhaaaGreatZLBy
import Derived.Test.YtbicifcgghmhaaaGreatZL10D
namespace Go.Proofs.YtbicifcgghmhaaaGreat
open Go.ChangeShapes Go.WideShapes Go.ChangeAt Go.RowKit
set_option linter.unusedVariables false
set_option linter.unusedSimpArgs false
set_option maxHeartbeats 4000000
set_option maxRecDepth 100000
def kA (l : List Int) (n : Int) : Nat := if l.length = 0 ∨ n ≤ 1 then 0 else (List.getD l 0 0 % n).toNat
def kC (l : List Int) (n : Int) : List Int := if l.length = 0 ∨ n ≤ 1 then l else List.drop 1 l
theorem d5 {l : List Int} {n : Int} (h : l.length = 0 ∨ n ≤ 1) : ((kA l n : Nat) : Int) = 0 := by unfold kA; rw [if_pos h]; rfl
theorem cG {l : List Int} {n : Int} (h : l.length = 0 ∨ n ≤ 1) : kC l n = l := if_pos h
theorem iY {l : List Int} {n : Int} (hb : Byt l) (h : ¬ (l.length = 0 ∨ n ≤ 1)) : ((kA l n : Nat) : Int) = List.getD l 0 0 % n := by
  unfold kA; rw [if_neg h]; exact Int.toNat_of_nonneg (Int.emod_nonneg _ (by omega))
theorem d6 {l : List Int} {n : Int} (h : ¬ (l.length = 0 ∨ n ≤ 1)) : kC l n = List.drop 1 l := if_neg h
theorem qR {l : List Int} (n : Int) (h : Byt l) : Byt (kC l n) := by
  unfold kC; split
  · exact h
  · exact h.drop 1
theorem uK (l : List Int) (n : Int) (h : Byt l) : (((kA l n : Nat) : Int) < n ∨ kA l n = 0) ∧ kA l n ≤ 255 := by
  by_cases hn : l.length = 0 ∨ n ≤ 1
  · have := d5 hn; omega
  · have e0 := iY h hn
    have h0 := Byt.at h 0 (by omega)
    have e3 := Int.emod_lt_of_pos (List.getD l 0 0) (b := n) (by omega)
    have e1 := Int.mul_ediv_add_emod (List.getD l 0 0) n
    have e2 : 0 ≤ n * (List.getD l 0 0 / n) := Int.mul_nonneg (by omega) (Int.ediv_nonneg h0.1 (by omega))
    omega
@[reducible] def qG (n : Nat) (s : List Int) : List Int := (List.take (min n 300) s)
theorem v35 (l : List Int) (n : Nat) (hn : List.length l = n) (hb : n ≤ 9223372036854775807) : Fun 13 [.c (.d (D.sl (dI .u8 l) n))] (kF []) 0 (rV 0 0) (kF [(0, some (70, .ds [D.sl (dI .u8 (qG n l)) (List.length (qG n l))]))]) 1 := by
  refine Fun.mk (n := 10) Tryz.func13 rfl rfl (Nat.le_of_ble_eq_true rfl) ?_
  intro cx hcx
  refine kI [.no] True [(0, sV .u8 l n)] [] 0 trivial ?_
  refine kI (qN 4 [.sls 0 (min n 300) (min n 300) (dI .u8 (qG n l)), .no, .no, .no]) ((kH 0) ∧ (((min (n : Int) 300) : Int) = (((min n 300) : Nat) : Int)) ∧ ((0 : Nat) ≤ (min n 300)) ∧ ((min n 300) ≤ n) ∧ ((min n 300) - 0 = (min n 300)) ∧ (List.take ((min n 300) * 1) (List.drop (0 * 1) (dI .u8 l)) = (dI .u8 (qG n l)))) [(2, rV 0 0)] [(0, some (70, .ds [db (qG n l) (min n 300)]))] 1 ⟨rfl, (by first | rfl | omega), zo, zo, zo, (by first | rfl | with_reducible assumption | exact y4 _ _ _ | exact k9q _ _ _ | (simp only [dF, aK, y4, Nat.mul_one, Nat.zero_mul, List.drop_zero, List.nil_append, List.append_nil]; done) | (simp only [dF, aK, y4, Nat.mul_one, Nat.zero_mul, List.drop_zero, List.nil_append, List.append_nil]; rfl) | (rw [List.take_of_length_le (by simp only [uU, qV, List.length_drop, List.length_replicate, Nat.mul_one] <;> omega)]; first | rfl | (simp only [aK, Nat.mul_one, Nat.zero_mul, List.drop_zero]; done) | (simp only [aK, Nat.mul_one, Nat.zero_mul, List.drop_zero]; rfl)))⟩ ?_
  refine AW.ret ?_
  exact EndP.of (.inr rfl) [] (P := (kH 0) ∧ (([db (qG n l) (List.length (qG n l))] : List D) = [db (qG n l) (min n 300)])) zk ⟨rfl, (by have e9 : (qG n l).length = min n 300 := (by rw [List.length_take]; omega); rw [e9])⟩
theorem cZ (l : List Int) (n : Int) (hb : Byt l) : Fun 30 [.c (.ptr 0 0), iE n] (kF [(0, some (70, .ds [D.sl (dI .u8 l) (List.length l)]))]) 1 (iV (((kA l n) : Nat) : Int)) (kF [(0, some (70, .ds [D.sl (dI .u8 (kC l n)) (List.length (kC l n))]))]) 1 := by
  refine Fun.mk (n := 34) Tryz.func30 rfl rfl (Nat.le_of_ble_eq_true rfl) ?_
  intro cx hcx
  refine kI [.no] True [(0, rV 0 0), (1, iV n)] [(0, some (70, .ds [db l (List.length l)]))] 1 trivial ?_
  refine AW.seq ?_
  by_cases hx1 : ((((List.length l) : Nat) : Int) = 0)
  · refine zr (qN 5 [.b true, .no, .no]) [0, 1, 15] [0] (((List.length l : Int) = 0)) [(0, rV 0 0), (1, iV n), (15, bV true)] [(0, some (70, .ds [db l (List.length l)]))] 1 zo ?_
    refine zt ?_
    refine kI [.no] True [(4, iV 0)] [(0, some (70, .ds [db l (List.length l)]))] 1 trivial ?_
    refine AW.ret ?_
    exact EndP.of (.inr rfl) [] (P := (((kA l n : Int) : Int) = 0) ∧ (([db (kC l n) (List.length (kC l n))] : List D) = [db l (List.length l)])) zk ⟨(by first | rfl | exact d5 zo | exact iY hb zo | (rw [cG (by omega)]) | (rw [d6 (by omega), List.length_drop])), (by first | rw [cG (by omega)] | rw [d6 (by omega), List.length_drop])⟩
  · by_cases hx2 : (n ≤ 1)
    · refine zr (qN 5 [.b false, .no, .no, .b true, .no]) [0, 1, 15] [0] ((¬ ((List.length l : Int) = 0)) ∧ ((n ≤ 1))) [(0, rV 0 0), (1, iV n), (15, bV true)] [(0, some (70, .ds [db l (List.length l)]))] 1 ⟨zo, zo⟩ ?_
      refine zt ?_
      refine kI [.no] True [(4, iV 0)] [(0, some (70, .ds [db l (List.length l)]))] 1 trivial ?_
      refine AW.ret ?_
      exact EndP.of (.inr rfl) [] (P := (((kA l n : Int) : Int) = 0) ∧ (([db (kC l n) (List.length (kC l n))] : List D) = [db l (List.length l)])) zk ⟨(by first | rfl | exact d5 zo | exact iY hb zo | (rw [cG (by omega)]) | (rw [d6 (by omega), List.length_drop])), (by first | rw [cG (by omega)] | rw [d6 (by omega), List.length_drop])⟩
    · refine zr (qN 5 [.b false, .no, .no, .b false, .no]) [0, 1, 15] [0] ((¬ ((List.length l : Int) = 0)) ∧ (¬ (n ≤ 1))) [(0, rV 0 0), (1, iV n), (15, bV false)] [(0, some (70, .ds [db l (List.length l)]))] 1 ⟨zo, zo⟩ ?_
      refine u9 ?_
      have hx3 : 0 ≤ (List.getD l 0 0) ∧ (List.getD l 0 0) ≤ 255 := hb.at 0 zo
      refine kI (qN 4 [.n 0, .d (D.lit (.int .u8 (List.getD l 0 0))), .w, .no]) ((kP 0) ∧ ((0 : Nat) < (List.length l)) ∧ ((List.drop 0 (dI .u8 l))[0]? = some (D.lit (.int .u8 (List.getD l 0 0)))) ∧ (yF (List.getD l 0 0))) [(0, rV 0 0), (1, iV n), (5, iV (List.getD l 0 0))] [(0, some (70, .ds [db l (List.length l)]))] 1 ⟨rfl, zo, (yG _ _ _ (by first | omega | (simp only [uU, qV, List.length_append, List.length_cons, List.length_nil, List.length_take, List.length_drop, List.length_replicate, List.length_set, List.length_map, List.length_reverse, Nat.mul_one] <;> omega) | rfl)), ⟨by omega, by omega⟩⟩ ?_
      refine kI (qN 5 [.sls 1 (List.length l) ((List.length l) - 1) (dI .u8 (List.drop 1 l)), .no, .no, .no]) ((kP 1) ∧ ((List.length l) = (List.length l)) ∧ ((1 : Nat) ≤ (List.length l)) ∧ ((List.length l) ≤ (List.length l)) ∧ ((List.length l) - 1 = ((List.length l) - 1)) ∧ (List.take (((List.length l) - 1) * 1) (List.drop (1 * 1) (dI .u8 l)) = (dI .u8 (List.drop 1 l)))) [(1, iV n), (5, iV (List.getD l 0 0))] [(0, some (70, .ds [db (List.drop 1 l) ((List.length l) - 1)]))] 1 ⟨rfl, rfl, zo, zo, zo, (by first | rfl | with_reducible assumption | exact y4 _ _ _ | exact k9q _ _ _ | (simp only [dF, aK, y4, Nat.mul_one, Nat.zero_mul, List.drop_zero, List.nil_append, List.append_nil]; done) | (simp only [dF, aK, y4, Nat.mul_one, Nat.zero_mul, List.drop_zero, List.nil_append, List.append_nil]; rfl) | (rw [List.take_of_length_le (by simp only [uU, qV, List.length_drop, List.length_replicate, Nat.mul_one] <;> omega)]; first | rfl | (simp only [aK, Nat.mul_one, Nat.zero_mul, List.drop_zero]; done) | (simp only [aK, Nat.mul_one, Nat.zero_mul, List.drop_zero]; rfl)))⟩ ?_
      refine kS [.no, .no, .ps, .no] (((0 : Int) ≤ ((List.getD l 0 0) : Int)) ∧ ((0 : Int) < (n : Int))) [(4, iV ((List.getD l 0 0) % n))] ⟨zo, zo⟩ ?_
      refine AW.ret ?_
      exact EndP.of (.inr rfl) [] (P := (((kA l n : Int) : Int) = ((List.getD l 0 0) % n)) ∧ (([db (kC l n) (List.length (kC l n))] : List D) = [db (List.drop 1 l) ((List.length l) - 1)])) zk ⟨(by first | rfl | exact d5 zo | exact iY hb zo | (rw [cG (by omega)]) | (rw [d6 (by omega), List.length_drop])), (by first | rw [cG (by omega)] | rw [d6 (by omega), List.length_drop])⟩
end Go.Proofs.YtbicifcgghmhaaaGreat
namespace Go.Proofs.YtbicifcgghmhaaaGreat
open Go.ChangeShapes Go.WideShapes Go.ChangeAt Go.RowKit
set_option linter.unusedVariables false
set_option linter.unusedSimpArgs false
/-! chapter 10: boxes out of dice -/
set_option maxHeartbeats 4000000
set_option maxRecDepth 100000
def nT : List (List Int) := [[3], [1, 2], [1, 2, 3, 4, 5, 6], [2, 1], [1, 2, 7, 8], [4], [1, 3]]
theorem v11 : MsW nT := fun l h => by
 have h1 : ∀ l ∈ nT, List.length l ≤ 6 := by decide
 have := h1 l h; omega
def yP (l : List Int) : List Int := List.getD nT (kA l 7) []
def uM (l : List Int) : Nat → List Int
 | 0 => l
 | i + 1 => kC (uM l i) 2
def r7 (sp l : List Int) : Nat → List Int
 | 0 => []
 | i + 1 => if kA (uM l i) 2 = 1 then r7 sp l i ++ [List.getD sp (i * 2) 0, List.getD sp (i * 2 + 1) 0] else r7 sp l i
theorem y8 {l : List Int} (h : Byt l) : ∀ i, Byt (uM l i)
 | 0 => h
 | i + 1 => qR _ (y8 h i)
theorem u9o {sp l : List Int} {i : Nat} {o : List Int} (h : r7 sp l i = o) (h1 : kA (uM l i) 2 = 1) : r7 sp l (i + 1) = o ++ [List.getD sp (i * 2) 0, List.getD sp (i * 2 + 1) 0] := by
 subst h; exact if_pos h1
theorem u9p {sp l : List Int} {i : Nat} {o : List Int} (h : r7 sp l i = o) (h1 : ¬ kA (uM l i) 2 = 1) : r7 sp l (i + 1) = o := by
 subst h; exact if_neg h1
def aS (sp l : List Int) (n : Nat) : List Int := if r7 sp l n = [] then [List.getD sp (kA (uM l n) (n : Int) * 2) 0, List.getD sp (kA (uM l n) (n : Int) * 2 + 1) 0] else r7 sp l n
def y9 (sp l : List Int) (n : Nat) : List Int := if r7 sp l n = [] then kC (uM l n) (n : Int) else uM l n
def aN (sp l : List Int) (n : Nat) : Nat := (aS sp l n).length / 2
theorem aJ {sp l : List Int} {n : Nat} (h : Byt l) : Byt (y9 sp l n) := by unfold y9; split; exact qR _ (y8 h n); exact y8 h n
theorem v3l {sp l o : List Int} {n k i : Nat} (h : r7 sp l i = o) (hi : i = n) (hl : o.length = k * 2) (hk : k = 0) : aS sp l n = o ++ [List.getD sp (kA (uM l i) (n : Int) * 2) 0, List.getD sp (kA (uM l i) (n : Int) * 2 + 1) 0] ∧ y9 sp l n = kC (uM l i) (n : Int) ∧ aN sp l n = k + 1 := by
 subst hi; subst hk
 have h2 : o = [] := List.eq_nil_of_length_eq_zero (by omega)
 have h0 : r7 sp l i = [] := by rw [h, h2]
 have h1 : aS sp l i = [List.getD sp (kA (uM l i) (i : Int) * 2) 0, List.getD sp (kA (uM l i) (i : Int) * 2 + 1) 0] := if_pos h0
 refine ⟨by rw [h1, h2]; rfl, if_pos h0, ?_⟩
 unfold aN; rw [h1, List.length_cons, List.length_cons, List.length_nil]
theorem v3k {sp l o : List Int} {n k i : Nat} (h : r7 sp l i = o) (hi : i = n) (hl : o.length = k * 2) (hk : 1 ≤ k) : aS sp l n = o ∧ y9 sp l n = uM l i ∧ aN sp l n = k := by
 subst hi
 have h0 : ¬ r7 sp l i = [] := fun e => by rw [h] at e; rw [e] at hl; have : (0 : Nat) = k * 2 := hl; omega
 have h1 : aS sp l i = o := by unfold aS; rw [if_neg h0, h]
 refine ⟨h1, if_neg h0, ?_⟩
 unfold aN; rw [h1, hl]; omega
theorem sY (l : List Int) : List.length (yP l) ≤ 6 := by
 have h1 : ∀ l ∈ nT, List.length l ≤ 6 := by decide
 unfold yP
 rw [List.getD_eq_getElem?_getD]
 cases e : nT[kA l 7]? with
 | none => exact Nat.zero_le _
 | some x => exact h1 x (List.mem_of_getElem? e)
theorem u1u {l : List Int} (h : Byt l) : 1 ≤ List.length (yP l) ∧ List.length (yP l) ≤ 6 := by
 refine ⟨?_, sY l⟩
 have h1 : ∀ x ∈ nT, 1 ≤ List.length x := by decide
 have h2 := uK l 7 h
 have h3 : kA l 7 < nT.length := by show _ < 7; omega
 unfold yP
 rw [List.getD_eq_getElem?_getD, List.getElem?_eq_getElem h3]
 exact h1 _ (List.getElem_mem h3)
theorem aA {p : Prop} (h : p := by first | omega | (simp only [kZ, kY, qV, List.length_append, List.length_cons, List.length_nil, List.length_take, List.length_drop, List.length_replicate, List.length_set, List.length_map, List.length_reverse, Nat.mul_one] <;> omega) | rfl) : p := h
theorem u96   : Fun 73 [] (kF []) 0 (qK (kK nT) 7) (kF []) 0 := by
 refine Fun.mk (n := 9) Tryz.func73 rfl rfl (Nat.le_of_ble_eq_true rfl) ?_
 intro cx hcx
 refine kI [.no] True [] [] 0 trivial ?_
 refine kI [(.fz (.no)), (.fz (.no)), (.fz (.no)), (.fz (.no)), (.fz (.no)), (.fz (.no)), (.fz (.no)), .no, .no] ((([iD 3] : List D).length = 1 * 1) ∧ (([iD 1, iD 2] : List D).length = 2 * 1) ∧ (([iD 1, iD 2, iD 3, iD 4, iD 5, iD 6] : List D).length = 6 * 1) ∧ (([iD 2, iD 1] : List D).length = 2 * 1) ∧ (([iD 1, iD 2, iD 7, iD 8] : List D).length = 4 * 1) ∧ (([iD 4] : List D).length = 1 * 1) ∧ (([iD 1, iD 3] : List D).length = 2 * 1)) [(0, oV 7 0 7 1)] [(7, some (38, .ds [D.sl [iD 3] 1, D.sl [iD 1, iD 2] 2, D.sl [iD 1, iD 2, iD 3, iD 4, iD 5, iD 6] 6, D.sl [iD 2, iD 1] 2, D.sl [iD 1, iD 2, iD 7, iD 8] 4, D.sl [iD 4] 1, D.sl [iD 1, iD 3] 2]))] 8 ⟨aA, aA, aA, aA, aA, aA, aA⟩ ?_
 refine AW.freeze 7 (l' := [(0, qK [D.sl [iD 3] 1, D.sl [iD 1, iD 2] 2, D.sl [iD 1, iD 2, iD 3, iD 4, iD 5, iD 6] 6, D.sl [iD 2, iD 1] 2, D.sl [iD 1, iD 2, iD 7, iD 8] 4, D.sl [iD 4] 1, D.sl [iD 1, iD 3] 2] 7)]) (g' := []) rfl (FzS.cons rfl (.e (.c (@FzC.own 7 ([D.sl [iD 3] 1, D.sl [iD 1, iD 2] 2, D.sl [iD 1, iD 2, iD 3, iD 4, iD 5, iD 6] 6, D.sl [iD 2, iD 1] 2, D.sl [iD 1, iD 2, iD 7, iD 8] 4, D.sl [iD 4] 1, D.sl [iD 1, iD 3] 2] : List D) 0 (7 : Nat) 1 true ([D.sl [iD 3] 1, D.sl [iD 1, iD 2] 2, D.sl [iD 1, iD 2, iD 3, iD 4, iD 5, iD 6] 6, D.sl [iD 2, iD 1] 2, D.sl [iD 1, iD 2, iD 7, iD 8] 4, D.sl [iD 4] 1, D.sl [iD 1, iD 3] 2] : List D) (by rw [List.drop_zero, Nat.mul_one, List.take_of_length_le (by first | omega | (simp only [kZ, kY, qV, List.length_append, List.length_cons, List.length_nil, List.length_take, List.length_drop, List.length_replicate, List.length_set, List.length_map, List.length_reverse, Nat.mul_one] <;> omega))]) aA))) FzS.nil) FzG.nil ?_
 refine AW.ret ?_
 exact EndP.of (.inr rfl) [] (P := (((kK nT) : List D) = [D.sl [iD 3] 1, D.sl [iD 1, iD 2] 2, D.sl [iD 1, iD 2, iD 3, iD 4, iD 5, iD 6] 6, D.sl [iD 2, iD 1] 2, D.sl [iD 1, iD 2, iD 7, iD 8] 4, D.sl [iD 4] 1, D.sl [iD 1, iD 3] 2]) ∧ (kH 7)) zk ⟨(by first | rfl | decide), rfl⟩
theorem v37 (l : List Int) (hb : Byt l) : Fun 43 [.c (.ptr 0 0)] (kF [(0, some (70, .ds [D.sl (dI .u8 l) (List.length l)]))]) 1 (sV .i64 (yP l) (List.length (yP l))) (kF [(0, some (70, .ds [D.sl (dI .u8 (kC l 7)) (List.length (kC l 7))]))]) 1 := by
 refine Fun.mk (n := 8) Tryz.func43 rfl rfl (Nat.le_of_ble_eq_true rfl) ?_
 intro cx hcx
 refine kI [.no] True [(0, rV 0 0)] [(0, some (70, .ds [db l (List.length l)]))] 1 trivial ?_
 have hx1 : ((((((kA l 7) : Nat) : Int) < 7) ∨ ((kA l 7) = 0)) ∧ ((kA l 7) ≤ 255)) := uK l (7 : Int) (qJ : Byt l)
 have hx2 : (Byt (kC l 7)) := qR (7 : Int) (qJ : Byt l)
 have hx3 : ((List.length (List.getD nT (kA l 7) ([] : List Int))) ≤ 1000000) := MsW.at v11 _
 refine kI [.call [] (qK (kK nT) 7) [] 0 [] none, .no, .call [0] (uV (kA l 7)) [(0, some (70, .ds [db (kC l 7) (List.length (kC l 7))]))] 1 [] none, .n (kA l 7), .d (dl (List.getD nT (kA l 7) ([] : List Int)) (List.length (List.getD nT (kA l 7) ([] : List Int)))), .no] ((_) ∧ (_) ∧ (kP (kA l 7 : Int)) ∧ ((kA l 7) < 7) ∧ ((List.drop (kA l 7) (kK nT))[0]? = some (dl (List.getD nT (kA l 7) ([] : List Int)) (List.length (List.getD nT (kA l 7) ([] : List Int)))))) [(2, sV .i64 (List.getD nT (kA l 7) ([] : List Int)) (List.length (List.getD nT (kA l 7) ([] : List Int))))] [(0, some (70, .ds [db (kC l 7) (List.length (kC l 7))]))] 1 ⟨(u96), (cZ l 7 (qJ : Byt l)), rfl, zo, (bK _ _ (by show _ < 7; omega))⟩ ?_
 refine AW.ret ?_
 exact EndP.of (.inr rfl) [] (P := (((dI .i64 (yP l)) : List D) = (dI .i64 (List.getD nT (kA l 7) ([] : List Int)))) ∧ (((List.length (yP l)) : Nat) = (List.length (List.getD nT (kA l 7) ([] : List Int)))) ∧ (kM [db (kC l 7) (List.length (kC l 7))])) zk ⟨(by first | rfl | decide), (by first | omega | rfl | assumption | (simp; done) | (simp; omega)), rfl⟩
abbrev dP (l : List Int) (i : Nat) : BC := .ds [D.sl (dI .u8 (uM l i)) (List.length (uM l i))]
abbrev j7 (l : List Int) (i : Nat) : BC := .ds [D.sl (dI .u8 (kC (uM l i) 2)) (List.length (kC (uM l i) 2))]
theorem u67 (sp : List Int) (n : Nat) (l : List Int) (hl : List.length sp = n * 2) (h1 : 1 ≤ n) (h2 : n ≤ 1000) (hb : Byt l) : Fun 58 [.c (.ptr 0 0), .c (.d (D.sl (dI .i64 sp) n))] (kF [(0, some (70, .ds [D.sl (dI .u8 l) (List.length l)]))]) 1 (.e (.agg [.d (D.sl (dI .i64 (eX (aS sp l n) (aN sp l n))) (vM (aS sp l n) (aN sp l n)))])) (kF [(0, some (70, .ds [D.sl (dI .u8 (y9 sp l n)) (List.length (y9 sp l n))]))]) 1 := by
 refine Fun.mk (n := 43) Tryz.func58 rfl rfl (Nat.le_of_ble_eq_true rfl) ?_
 intro cx hcx
 refine kI [.no] True [(0, rV 0 0), (1, sV .i64 sp n), (4, rV 1 0)] [(0, some (70, .ds [db l (List.length l)])), (1, some (60, .ds [qQ]))] 2 trivial ?_
 refine kS [.no] True [(0, rV 0 0), (1, sV .i64 sp n), (4, rV 1 0), (5, nV)] trivial ?_
 refine AW.seq ?_
 refine kS [.no, .no, .no] True [(0, rV 0 0), (1, sV .i64 sp n), (4, rV 1 0), (5, nV), (10, sV .i64 sp n), (11, uV n), (12, iV 0)] trivial ?_
 refine AW.block ?_
 refine AW.adoptS 5 2 95 rfl ?_
 refine qF 1 hcx (fun (x : {x : Nat × Nat × List Int // match x with | (i, k, o) => (i ≤ n ∧ k ≤ i) ∧ (r7 sp l i = o) ∧ (List.length o = k * 2)}) => match x with | ⟨(i, k, o), _⟩ => (⟨[(0, rV 0 0), (1, sV .i64 sp n), (4, rV 1 0), (5, oV 3 0 k 2), (10, sV .i64 sp n), (11, uV n), (12, uV i)], [(0, some (70, (dP l i))), (1, some (60, .ds [qQ])), (3, some (95, .ds (dI .i64 o)))], 4⟩ : ES)) (fun x => match x with | ⟨(i, k, o), _⟩ => n - i) ⟨((0 : Nat), (0 : Nat), (([] : List Int) : List Int)), ⟨(by first | omega | assumption | simp), rfl, rfl⟩⟩ [(3, 2)] (P := (kH 0) ∧ (kM (dI .i64 sp)) ∧ (kH n) ∧ (kH 0) ∧ (kH 0) ∧ (kH 0) ∧ (kM (dI .i64 sp)) ∧ (kH n) ∧ (kP (n : Int)) ∧ (kP 0) ∧ (([db (uM l 0) (List.length (uM l 0))] : List D) = [db l (List.length l)]) ∧ (kM [qQ]) ∧ (((dI .i64 ([] : List Int)) : List D) = ([] : List D))) zk ⟨rfl, rfl, rfl, rfl, rfl, rfl, rfl, rfl, rfl, rfl, (by first | rfl | with_reducible assumption), rfl, (by first | rfl | with_reducible assumption)⟩ ?_
 rintro ⟨⟨i, k, o⟩, hinv0⟩
 obtain ⟨hi, hS, ho⟩ : (i ≤ n ∧ k ≤ i) ∧ (r7 sp l i = o) ∧ (List.length o = k * 2) := hinv0
 refine uG (l := [(0, rV 0 0), (1, sV .i64 sp n), (4, rV 1 0), (5, oV 3 0 k 2), (10, sV .i64 sp n), (11, uV n), (12, uV i)]) (g := [(0, some (70, (dP l i))), (1, some (60, .ds [qQ])), (3, some (95, .ds (dI .i64 o)))]) (nx := 4) rfl rfl rfl ?_
 by_cases hx1 : (((i : Nat) : Int) < ((n : Nat) : Int))
 ·refine kI [.b true] (((i : Int) < (n : Int))) [(0, rV 0 0), (1, sV .i64 sp n), (4, rV 1 0), (5, oV 3 0 k 2), (10, sV .i64 sp n), (11, uV n), (12, uV i), (13, bV true)] [(0, some (70, (dP l i))), (1, some (60, .ds [qQ])), (3, some (95, .ds (dI .i64 o)))] 4 zo ?_
  refine AW.seq ?_
  refine vO ?_
  refine AW.seq ?_
  refine AW.block ?_
  refine kI [.n i, .ds [iD (List.getD sp (i * 2) 0), iD (List.getD sp ((i * 2) + 1) 0)], .no, .no] ((kP (i : Int)) ∧ (i < n) ∧ (List.take 2 (List.drop (i * 2) (dI .i64 sp)) = [iD (List.getD sp (i * 2) 0), iD (List.getD sp ((i * 2) + 1) 0)]) ∧ (([iD (List.getD sp (i * 2) 0), iD (List.getD sp ((i * 2) + 1) 0)] : List D).length = 2)) [(0, rV 0 0), (1, sV .i64 sp n), (4, rV 1 0), (5, oV 3 0 k 2), (7, rV 4 0), (10, sV .i64 sp n), (11, uV n), (12, uV i)] [(0, some (70, (dP l i))), (1, some (60, .ds [qQ])), (3, some (95, .ds (dI .i64 o))), (4, some (95, .ds [iD (List.getD sp (i * 2) 0), iD (List.getD sp ((i * 2) + 1) 0)]))] 5 ⟨rfl, zo, (b7 .i64 sp (i * 2) 2 aA), rfl⟩ ?_
  by_cases hx4 : ((((kA (uM l i) 2) : Nat) : Int) = 1)
  ·have hx5 : ((((((kA (uM l i) 2) : Nat) : Int) < 2) ∨ ((kA (uM l i) 2) = 0)) ∧ ((kA (uM l i) 2) ≤ 255)) := uK (uM l i) (2 : Int) ((y8 (qJ : Byt l) _))
   have hx6 : (Byt (kC (uM l i) 2)) := qR (2 : Int) ((y8 (qJ : Byt l) _))
   refine kI [.no, .call [0] (uV (kA (uM l i) 2)) [(0, some (70, (j7 l i)))] 1 [] none, .b true] ((_) ∧ (((kA (uM l i) 2 : Int) = 1))) [(0, rV 0 0), (1, sV .i64 sp n), (4, rV 1 0), (5, oV 3 0 k 2), (7, rV 4 0), (10, sV .i64 sp n), (11, uV n), (12, uV i), (18, bV true)] [(0, some (70, (j7 l i))), (1, some (60, .ds [qQ])), (3, some (95, .ds (dI .i64 o))), (4, some (95, .ds [iD (List.getD sp (i * 2) 0), iD (List.getD sp ((i * 2) + 1) 0)]))] 5 ⟨(cZ (uM l i) 2 (y8 (qJ : Byt l) _)), zo⟩ ?_
   refine zt ?_
   refine aB [.no, .no, .no, .ap none (k + 1) (dI .i64 (o ++ ([(List.getD sp (i * 2) 0), (List.getD sp ((i * 2) + 1) 0)] : List Int))), .no] (([iD (List.getD sp (i * 2) 0), iD (List.getD sp ((i * 2) + 1) 0)].length = 1 * 2) ∧ (((dI .i64 o) : List D).length = k * 2) ∧ ((k + 1) * 16 ≤ 140737488355328) ∧ (k + 1 = (k + 1)) ∧ (((dI .i64 o) : List D) ++ [iD (List.getD sp (i * 2) 0), iD (List.getD sp ((i * 2) + 1) 0)] = (dI .i64 (o ++ ([(List.getD sp (i * 2) 0), (List.getD sp ((i * 2) + 1) 0)] : List Int))))) [(0, rV 0 0), (1, sV .i64 sp n), (4, rV 1 0), (5, oV 6 0 (k + 1) 2), (10, sV .i64 sp n), (11, uV n), (12, uV i)] [(0, some (70, (j7 l i))), (1, some (60, .ds [qQ])), (6, some (95, .ds (dI .i64 (o ++ ([(List.getD sp (i * 2) 0), (List.getD sp ((i * 2) + 1) 0)] : List Int)))))] 7 ⟨aA, aA, zo, zo, (y4 .i64 o ([(List.getD sp (i * 2) 0), (List.getD sp ((i * 2) + 1) 0)] : List Int))⟩ ?_
   refine yK [.w, .no] (yF ((i : Int) + 1)) [(0, rV 0 0), (1, sV .i64 sp n), (4, rV 1 0), (5, oV 6 0 (k + 1) 2), (10, sV .i64 sp n), (11, uV n), (12, iV (↑i + 1))] ⟨by omega, by omega⟩ ?_
   exact Rd.of ⟨(((i + 1) : Nat), ((k + 1) : Nat), ((o ++ ([(List.getD sp (i * 2) 0), (List.getD sp ((i * 2) + 1) 0)] : List Int)) : List Int)), ⟨(by first | omega | assumption | simp), (by first | exact u9o hS zo | exact u9p hS zo), (by first | assumption | (simp only [kZ, kY, List.length_append, List.length_cons, List.length_nil] <;> omega))⟩⟩ [(3, 6)] (P := (kH 0) ∧ (kM (dI .i64 sp)) ∧ (kH n) ∧ (kH 0) ∧ (kH 0) ∧ (kH (k + 1)) ∧ (kM (dI .i64 sp)) ∧ (kH n) ∧ (kP (n : Int)) ∧ (cU i) ∧ (([db (uM l (i + 1)) (List.length (uM l (i + 1)))] : List D) = [db (kC (uM l i) 2) (List.length (kC (uM l i) 2))]) ∧ (kM [qQ]) ∧ (kM (dI .i64 (o ++ ([(List.getD sp (i * 2) 0), (List.getD sp ((i * 2) + 1) 0)] : List Int))))) zk ⟨rfl, rfl, rfl, rfl, rfl, rfl, rfl, rfl, rfl, (by first | rfl | omega | assumption | (simp; done) | (simp; omega)), (by first | rfl | with_reducible assumption), rfl, rfl⟩ (show n - (i + 1) < n - i from (by first | omega | (show _ < _; simp; omega)))
  ·have hx7 : ((((((kA (uM l i) 2) : Nat) : Int) < 2) ∨ ((kA (uM l i) 2) = 0)) ∧ ((kA (uM l i) 2) ≤ 255)) := uK (uM l i) (2 : Int) ((y8 (qJ : Byt l) _))
   have hx8 : (Byt (kC (uM l i) 2)) := qR (2 : Int) ((y8 (qJ : Byt l) _))
   refine kI [.no, .call [0] (uV (kA (uM l i) 2)) [(0, some (70, (j7 l i)))] 1 [] none, .b false] ((_) ∧ (¬ ((kA (uM l i) 2 : Int) = 1))) [(0, rV 0 0), (1, sV .i64 sp n), (4, rV 1 0), (5, oV 3 0 k 2), (7, rV 4 0), (10, sV .i64 sp n), (11, uV n), (12, uV i), (18, bV false)] [(0, some (70, (j7 l i))), (1, some (60, .ds [qQ])), (3, some (95, .ds (dI .i64 o))), (4, some (95, .ds [iD (List.getD sp (i * 2) 0), iD (List.getD sp ((i * 2) + 1) 0)]))] 5 ⟨(cZ (uM l i) 2 (y8 (qJ : Byt l) _)), zo⟩ ?_
   refine u9 ?_
   refine aB [.w, .no] (yF ((i : Int) + 1)) [(0, rV 0 0), (1, sV .i64 sp n), (4, rV 1 0), (5, oV 3 0 k 2), (10, sV .i64 sp n), (11, uV n), (12, iV (↑i + 1))] [(0, some (70, (j7 l i))), (1, some (60, .ds [qQ])), (3, some (95, .ds (dI .i64 o)))] 5 ⟨by omega, by omega⟩ ?_
   exact Rd.of ⟨(((i + 1) : Nat), (k : Nat), (o : List Int)), ⟨(by first | omega | assumption | simp), (by first | exact u9o hS zo | exact u9p hS zo), (by first | assumption | (simp only [kZ, kY, List.length_append, List.length_cons, List.length_nil] <;> omega))⟩⟩ [] (P := (kH 0) ∧ (kM (dI .i64 sp)) ∧ (kH n) ∧ (kH 0) ∧ (kH 0) ∧ (kH k) ∧ (kM (dI .i64 sp)) ∧ (kH n) ∧ (kP (n : Int)) ∧ (cU i) ∧ (([db (uM l (i + 1)) (List.length (uM l (i + 1)))] : List D) = [db (kC (uM l i) 2) (List.length (kC (uM l i) 2))]) ∧ (kM [qQ]) ∧ (kM (dI .i64 o))) zk ⟨rfl, rfl, rfl, rfl, rfl, rfl, rfl, rfl, rfl, (by first | rfl | omega | assumption | (simp; done) | (simp; omega)), (by first | rfl | with_reducible assumption), rfl, rfl⟩ (show n - (i + 1) < n - i from (by first | omega | (show _ < _; simp; omega)))
 ·refine kI [.b false] (¬ ((i : Int) < (n : Int))) [(0, rV 0 0), (1, sV .i64 sp n), (4, rV 1 0), (5, oV 3 0 k 2), (10, sV .i64 sp n), (11, uV n), (12, uV i), (13, bV false)] [(0, some (70, (dP l i))), (1, some (60, .ds [qQ])), (3, some (95, .ds (dI .i64 o)))] 4 zo ?_
  refine AW.seq ?_
  refine zf ?_
  refine AW.exit ?_
  refine AW.seq ?_
  by_cases hx9 : (((k : Nat) : Int) = 0)
  ·refine kI [.no, .no, .b true] (((k : Int) = 0)) [(0, rV 0 0), (1, sV .i64 sp n), (4, rV 1 0), (5, oV 3 0 k 2), (26, bV true)] [(0, some (70, (dP l i))), (1, some (60, .ds [qQ])), (3, some (95, .ds (dI .i64 o)))] 4 zo ?_
   refine zt ?_
   have hx10 : ((((((kA (uM l i) ((n : Nat) : Int)) : Nat) : Int) < ((n : Nat) : Int)) ∨ ((kA (uM l i) ((n : Nat) : Int)) = 0)) ∧ ((kA (uM l i) ((n : Nat) : Int)) ≤ 255)) := uK (uM l i) ((n : Nat) : Int) ((y8 (qJ : Byt l) _))
   have hx11 : (Byt (kC (uM l i) ((n : Nat) : Int))) := qR ((n : Nat) : Int) ((y8 (qJ : Byt l) _))
   refine aB (qN 5 [.call [0] (uV (kA (uM l i) (n : Int))) [(0, some (70, .ds [db (kC (uM l i) (n : Int)) (List.length (kC (uM l i) (n : Int)))]))] 1 [] none, .n (kA (uM l i) (n : Int)), .ds [iD (List.getD sp ((kA (uM l i) (n : Int)) * 2) 0), iD (List.getD sp (((kA (uM l i) (n : Int)) * 2) + 1) 0)], .no, .ap none (k + 1) (dI .i64 (o ++ ([(List.getD sp ((kA (uM l i) (n : Int)) * 2) 0), (List.getD sp (((kA (uM l i) (n : Int)) * 2) + 1) 0)] : List Int))), .no]) ((_) ∧ (kP (((kA (uM l i) (n : Int)) : Nat) : Int)) ∧ ((kA (uM l i) (n : Int)) < n) ∧ (List.take 2 (List.drop ((kA (uM l i) (n : Int)) * 2) (dI .i64 sp)) = [iD (List.getD sp ((kA (uM l i) (n : Int)) * 2) 0), iD (List.getD sp (((kA (uM l i) (n : Int)) * 2) + 1) 0)]) ∧ (([iD (List.getD sp ((kA (uM l i) (n : Int)) * 2) 0), iD (List.getD sp (((kA (uM l i) (n : Int)) * 2) + 1) 0)] : List D).length = 2) ∧ ([iD (List.getD sp ((kA (uM l i) (n : Int)) * 2) 0), iD (List.getD sp (((kA (uM l i) (n : Int)) * 2) + 1) 0)].length = 1 * 2) ∧ (((dI .i64 o) : List D).length = k * 2) ∧ ((k + 1) * 16 ≤ 140737488355328) ∧ (k + 1 = (k + 1)) ∧ (((dI .i64 o) : List D) ++ [iD (List.getD sp ((kA (uM l i) (n : Int)) * 2) 0), iD (List.getD sp (((kA (uM l i) (n : Int)) * 2) + 1) 0)] = (dI .i64 (o ++ ([(List.getD sp ((kA (uM l i) (n : Int)) * 2) 0), (List.getD sp (((kA (uM l i) (n : Int)) * 2) + 1) 0)] : List Int))))) [(4, rV 1 0), (5, oV 5 0 (k + 1) 2)] [(0, some (70, .ds [db (kC (uM l i) ↑n) (List.length (kC (uM l i) ↑n))])), (1, some (60, .ds [qQ])), (5, some (95, .ds (dI .i64 (o ++ ([(List.getD sp ((kA (uM l i) ↑n) * 2) 0), (List.getD sp (((kA (uM l i) ↑n) * 2) + 1) 0)] : List Int)))))] 6 ⟨(cZ (uM l i) (n : Int) (y8 (qJ : Byt l) _)), rfl, zo, (b7 .i64 sp ((kA (uM l i) (n : Int)) * 2) 2 aA), rfl, aA, aA, zo, zo, (y4 .i64 o ([(List.getD sp ((kA (uM l i) (n : Int)) * 2) 0), (List.getD sp (((kA (uM l i) (n : Int)) * 2) + 1) 0)] : List Int))⟩ ?_
   refine AW.freeze 5 (l' := [(4, rV 1 0), (5, sV .i64 (o ++ ([(List.getD sp ((kA (uM l i) (n : Int)) * 2) 0), (List.getD sp (((kA (uM l i) (n : Int)) * 2) + 1) 0)] : List Int)) (k + 1))]) (g' := [(0, some (70, .ds [db (kC (uM l i) (n : Int)) (List.length (kC (uM l i) (n : Int)))])), (1, some (60, .ds [qQ]))]) rfl (FzS.cons rfl (.same _) (FzS.cons rfl (.e (.c (@FzC.own 5 ((dI .i64 (o ++ ([(List.getD sp ((kA (uM l i) (n : Int)) * 2) 0), (List.getD sp (((kA (uM l i) (n : Int)) * 2) + 1) 0)] : List Int))) : List D) 0 (k + 1) 2 true ((dI .i64 (o ++ ([(List.getD sp ((kA (uM l i) (n : Int)) * 2) 0), (List.getD sp (((kA (uM l i) (n : Int)) * 2) + 1) 0)] : List Int))) : List D) (by rw [List.drop_zero, List.take_of_length_le (by first | omega | (simp only [kZ, kY, qV, List.length_append, List.length_cons, List.length_nil, List.length_take, List.length_drop, List.length_replicate, List.length_set, List.length_map, List.length_reverse, Nat.mul_one] <;> omega))]) aA))) FzS.nil)) (yH rfl rfl (yH rfl rfl FzG.nil)) ?_
   have hx12 : ((List.length (eX (o ++ ([(List.getD sp ((kA (uM l i) ((n : Nat) : Int)) * 2) 0), (List.getD sp (((kA (uM l i) ((n : Nat) : Int)) * 2) + 1) 0)] : List Int)) (k + 1))) = ((vM (o ++ ([(List.getD sp ((kA (uM l i) ((n : Nat) : Int)) * 2) 0), (List.getD sp (((kA (uM l i) ((n : Nat) : Int)) * 2) + 1) 0)] : List Int)) (k + 1)) * 2)) := i0 (o ++ ([(List.getD sp ((kA (uM l i) ((n : Nat) : Int)) * 2) 0), (List.getD sp (((kA (uM l i) ((n : Nat) : Int)) * 2) + 1) 0)] : List Int)) (k + 1)
   have hx13 : ((((0 : Int) ≤ (o5 (o ++ ([(List.getD sp ((kA (uM l i) ((n : Nat) : Int)) * 2) 0), (List.getD sp (((kA (uM l i) ((n : Nat) : Int)) * 2) + 1) 0)] : List Int)) (k + 1))) ∧ ((o5 (o ++ ([(List.getD sp ((kA (uM l i) ((n : Nat) : Int)) * 2) 0), (List.getD sp (((kA (uM l i) ((n : Nat) : Int)) * 2) + 1) 0)] : List Int)) (k + 1)) ≤ 3)) ∧ ((vM (o ++ ([(List.getD sp ((kA (uM l i) ((n : Nat) : Int)) * 2) 0), (List.getD sp (((kA (uM l i) ((n : Nat) : Int)) * 2) + 1) 0)] : List Int)) (k + 1)) ≤ 64)) := nU (o ++ ([(List.getD sp ((kA (uM l i) ((n : Nat) : Int)) * 2) 0), (List.getD sp (((kA (uM l i) ((n : Nat) : Int)) * 2) + 1) 0)] : List Int)) (k + 1)
   refine kI (.no :: .call [] (.tup [.agg [.d (dl (eX (o ++ ([(List.getD sp ((kA (uM l i) (n : Int)) * 2) 0), (List.getD sp (((kA (uM l i) (n : Int)) * 2) + 1) 0)] : List Int)) (k + 1)) (vM (o ++ ([(List.getD sp ((kA (uM l i) (n : Int)) * 2) 0), (List.getD sp (((kA (uM l i) (n : Int)) * 2) + 1) 0)] : List Int)) (k + 1)))], iE (o5 (o ++ ([(List.getD sp ((kA (uM l i) (n : Int)) * 2) 0), (List.getD sp (((kA (uM l i) (n : Int)) * 2) + 1) 0)] : List Int)) (k + 1))]) [] 0 [] none :: qN 6 []) _ [(4, rV 1 0), (8, rV 6 0)] [(0, some (70, .ds [db (kC (uM l i) ↑n) (List.length (kC (uM l i) ↑n))])), (1, some (60, .ds [qQ])), (6, some (60, .ds [dl (eX (o ++ ([(List.getD sp ((kA (uM l i) ↑n) * 2) 0), (List.getD sp (((kA (uM l i) ↑n) * 2) + 1) 0)] : List Int)) (k + 1)) (vM (o ++ ([(List.getD sp ((kA (uM l i) ↑n) * 2) 0), (List.getD sp (((kA (uM l i) ↑n) * 2) + 1) 0)] : List Int)) (k + 1))]))] 7 (k3o (o ++ ([(List.getD sp ((kA (uM l i) (n : Int)) * 2) 0), (List.getD sp (((kA (uM l i) (n : Int)) * 2) + 1) 0)] : List Int)) (k + 1) (by first | omega | with_reducible assumption | (simp only [kZ, kY, List.length_append, List.length_cons, List.length_nil, List.length_take, List.length_drop, List.length_replicate, List.length_set] <;> omega) | rfl | assumption) zo) ?_
   refine kI [.no, .no] True [(4, rV 1 0)] [(0, some (70, .ds [db (kC (uM l i) ↑n) (List.length (kC (uM l i) ↑n))])), (1, some (60, .ds [dl (eX (o ++ ([(List.getD sp ((kA (uM l i) ↑n) * 2) 0), (List.getD sp (((kA (uM l i) ↑n) * 2) + 1) 0)] : List Int)) (k + 1)) (vM (o ++ ([(List.getD sp ((kA (uM l i) ↑n) * 2) 0), (List.getD sp (((kA (uM l i) ↑n) * 2) + 1) 0)] : List Int)) (k + 1))]))] 7 trivial ?_
   obtain ⟨hz1, hz2, hz3⟩ := v3l hS (show i = n by omega) ho zo
   refine AW.ret ?_
   exact EndP.of (.inr rfl) [] (P := (((dI .i64 (eX (aS sp l n) (aN sp l n))) : List D) = (dI .i64 (eX (o ++ ([(List.getD sp ((kA (uM l i) (n : Int)) * 2) 0), (List.getD sp (((kA (uM l i) (n : Int)) * 2) + 1) 0)] : List Int)) (k + 1)))) ∧ (((vM (aS sp l n) (aN sp l n)) : Nat) = (vM (o ++ ([(List.getD sp ((kA (uM l i) (n : Int)) * 2) 0), (List.getD sp (((kA (uM l i) (n : Int)) * 2) + 1) 0)] : List Int)) (k + 1))) ∧ (([db (y9 sp l n) (List.length (y9 sp l n))] : List D) = [db (kC (uM l i) (n : Int)) (List.length (kC (uM l i) (n : Int)))])) zk ⟨(by first | rfl | (rw [hz1, hz3]; done) | (rw [hz1, hz3]; rfl) | (rw [hz2]; done) | (rw [hz2]; rfl)), (by first | rfl | (rw [hz1, hz3]; done) | (rw [hz2]; done) | omega), (by first | rfl | (rw [hz1, hz3]; done) | (rw [hz1, hz3]; rfl) | (rw [hz2]; done) | (rw [hz2]; rfl))⟩
  ·refine kI [.no, .no, .b false] (¬ ((k : Int) = 0)) [(0, rV 0 0), (1, sV .i64 sp n), (4, rV 1 0), (5, oV 3 0 k 2), (26, bV false)] [(0, some (70, (dP l i))), (1, some (60, .ds [qQ])), (3, some (95, .ds (dI .i64 o)))] 4 zo ?_
   refine u9 ?_
   refine AW.freeze 3 (l' := [(0, rV 0 0), (1, sV .i64 sp n), (4, rV 1 0), (5, sV .i64 o k), (26, bV false)]) (g' := [(0, some (70, (dP l i))), (1, some (60, .ds [qQ]))]) rfl (FzS.cons rfl (.same _) (FzS.cons rfl (.same _) (FzS.cons rfl (.same _) (FzS.cons rfl (.e (.c (@FzC.own 3 ((dI .i64 o) : List D) 0 k 2 true ((dI .i64 o) : List D) (by rw [List.drop_zero, List.take_of_length_le (by first | omega | (simp only [kZ, kY, qV, List.length_append, List.length_cons, List.length_nil, List.length_take, List.length_drop, List.length_replicate, List.length_set, List.length_map, List.length_reverse, Nat.mul_one] <;> omega))]) aA))) (FzS.cons rfl (.same _) FzS.nil))))) (yH rfl rfl (yH rfl rfl FzG.nil)) ?_
   have hx14 : ((List.length (eX o k)) = ((vM o k) * 2)) := i0 o k
   have hx15 : ((((0 : Int) ≤ (o5 o k)) ∧ ((o5 o k) ≤ 3)) ∧ ((vM o k) ≤ 64)) := nU o k
   refine kI (.no :: .call [] (.tup [.agg [.d (dl (eX o k) (vM o k))], iE (o5 o k)]) [] 0 [] none :: qN 6 []) _ [(4, rV 1 0), (8, rV 4 0)] [(0, some (70, (dP l i))), (1, some (60, .ds [qQ])), (4, some (60, .ds [dl (eX o k) (vM o k)]))] 5 (k3o o k zo zo) ?_
   refine kI [.no, .no] True [(4, rV 1 0)] [(0, some (70, (dP l i))), (1, some (60, .ds [dl (eX o k) (vM o k)]))] 5 trivial ?_
   obtain ⟨hz1, hz2, hz3⟩ := v3k hS (show i = n by omega) ho zo
   refine AW.ret ?_
   exact EndP.of (.inr rfl) [] (P := (((dI .i64 (eX (aS sp l n) (aN sp l n))) : List D) = (dI .i64 (eX o k))) ∧ (((vM (aS sp l n) (aN sp l n)) : Nat) = (vM o k)) ∧ (([db (y9 sp l n) (List.length (y9 sp l n))] : List D) = [db (uM l i) (List.length (uM l i))])) zk ⟨(by first | rfl | (rw [hz1, hz3]; done) | (rw [hz1, hz3]; rfl) | (rw [hz2]; done) | (rw [hz2]; rfl)), (by first | rfl | (rw [hz1, hz3]; done) | (rw [hz2]; done) | omega), (by first | rfl | (rw [hz1, hz3]; done) | (rw [hz1, hz3]; rfl) | (rw [hz2]; done) | (rw [hz2]; rfl))⟩
end Go.Proofs.YtbicifcgghmhaaaGreat
