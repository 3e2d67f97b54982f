/- Merged texts. -/
import Derived.Test.YtbicifcgghmhaaaGreatZLBy
import Derived.Test.YtbicifcgghmhaaaGreatZL10D
namespace Go.Proofs.YtbicifcgghmhaaaGreat
open Go.ChangeShapes Go.WideShapes Go.ChangeAt Go.RowKit
set_option linter.unusedVariables false
set_option linter.unusedSimpArgs false
set_option maxHeartbeats 4000000
set_option maxRecDepth 100000
def kA (l : List Int) (n : Int) : Nat := if l.length = 0 ∨ n ≤ 1 then 0 else (List.getD l 0 0 % n).toNat
def kD (l : List Int) (n : Int) : List Int := if l.length = 0 ∨ n ≤ 1 then l else List.drop 1 l
theorem d9 {l : List Int} {n : Int} (h : l.length = 0 ∨ n ≤ 1) : ((kA l n : Nat) : Int) = 0 := by unfold kA; rw [if_pos h]; rfl
theorem cH {l : List Int} {n : Int} (h : l.length = 0 ∨ n ≤ 1) : kD l n = l := if_pos h
theorem iZ {l : List Int} {n : Int} (hb : Byt l) (h : ¬ (l.length = 0 ∨ n ≤ 1)) : ((kA l n : Nat) : Int) = List.getD l 0 0 % n := by
  unfold kA; rw [if_neg h]; exact Int.toNat_of_nonneg (Int.emod_nonneg _ (by omega))
theorem eA {l : List Int} {n : Int} (h : ¬ (l.length = 0 ∨ n ≤ 1)) : kD l n = List.drop 1 l := if_neg h
theorem qR {l : List Int} (n : Int) (h : Byt l) : Byt (kD l n) := by
  unfold kD; split
  · exact h
  · exact h.drop 1
theorem uN (l : List Int) (n : Int) (h : Byt l) : (((kA l n : Nat) : Int) < n ∨ kA l n = 0) ∧ kA l n ≤ 255 := by
  by_cases hn : l.length = 0 ∨ n ≤ 1
  · have := d9 hn; omega
  · have e0 := iZ h hn
    have h0 := Byt.at h 0 (by omega)
    have e3 := Int.emod_lt_of_pos (List.getD l 0 0) (b := n) (by omega)
    have e1 := Int.mul_ediv_add_emod (List.getD l 0 0) n
    have e2 : 0 ≤ n * (List.getD l 0 0 / n) := Int.mul_nonneg (by omega) (Int.ediv_nonneg h0.1 (by omega))
    omega
@[reducible] def qP (n : Nat) (s : List Int) : List Int := (List.take (min n 300) s)
theorem v2q (l : List Int) (n : Nat) (hn : List.length l = n) (hb : n ≤ 9223372036854775807) : Fun 13 [.c (.d (D.sl (dI .u8 l) n))] (kH []) 0 (rV 0 0) (kH [(0, some (70, .ds [D.sl (dI .u8 (qP n l)) (List.length (qP n l))]))]) 1 := by
  refine Fun.mk (n := 10) Tryz.func13 rfl rfl (Nat.le_of_ble_eq_true rfl) ?_
  intro cx hcx
  refine kK [.no] True [(0, sV .u8 l n)] [] 0 trivial ?_
  refine kK (qN 4 [.sls 0 (min n 300) (min n 300) (dI .u8 (qP n l)), .no, .no, .no]) ((kJ 0) ∧ (((min (n : Int) 300) : Int) = (((min n 300) : Nat) : Int)) ∧ ((0 : Nat) ≤ (min n 300)) ∧ ((min n 300) ≤ n) ∧ ((min n 300) - 0 = (min n 300)) ∧ (List.take ((min n 300) * 1) (List.drop (0 * 1) (dI .u8 l)) = (dI .u8 (qP n l)))) [(2, rV 0 0)] [(0, some (70, .ds [db (qP n l) (min n 300)]))] 1 ⟨rfl, (by first | rfl | omega), zo, zo, zo, (by first | rfl | with_reducible assumption | exact y9 _ _ _ | exact k9h _ _ _ | (simp only [dJ, aN, y9, Nat.mul_one, Nat.zero_mul, List.drop_zero, List.nil_append, List.append_nil]; done) | (simp only [dJ, aN, y9, Nat.mul_one, Nat.zero_mul, List.drop_zero, List.nil_append, List.append_nil]; rfl) | (rw [List.take_of_length_le (by simp only [uX, qW, List.length_drop, List.length_replicate, Nat.mul_one] <;> omega)]; first | rfl | (simp only [aN, Nat.mul_one, Nat.zero_mul, List.drop_zero]; done) | (simp only [aN, Nat.mul_one, Nat.zero_mul, List.drop_zero]; rfl)))⟩ ?_
  refine AW.ret ?_
  exact kB (.inr rfl) [] (P := (kJ 0) ∧ (([db (qP n l) (List.length (qP n l))] : List D) = [db (qP n l) (min n 300)])) zk ⟨rfl, (by have e9 : (qP n l).length = min n 300 := (by rw [List.length_take]; omega); rw [e9])⟩
theorem c5 (l : List Int) (n : Int) (hb : Byt l) : Fun 30 [.c (.ptr 0 0), iE n] (kH [(0, some (70, .ds [D.sl (dI .u8 l) (List.length l)]))]) 1 (iV (((kA l n) : Nat) : Int)) (kH [(0, some (70, .ds [D.sl (dI .u8 (kD l n)) (List.length (kD l n))]))]) 1 := by
  refine Fun.mk (n := 34) Tryz.func30 rfl rfl (Nat.le_of_ble_eq_true rfl) ?_
  intro cx hcx
  refine kK [.no] True [(0, rV 0 0), (1, iV n)] [(0, some (70, .ds [db l (List.length l)]))] 1 trivial ?_
  refine AW.seq ?_
  by_cases hx1 : ((((List.length l) : Nat) : Int) = 0)
  · refine zr (qN 5 [.b true, .no, .no]) [0, 1, 15] [0] (((List.length l : Int) = 0)) [(0, rV 0 0), (1, iV n), (15, bV true)] [(0, some (70, .ds [db l (List.length l)]))] 1 zo ?_
    refine zt ?_
    refine kK [.no] True [(4, iV 0)] [(0, some (70, .ds [db l (List.length l)]))] 1 trivial ?_
    refine AW.ret ?_
    exact kB (.inr rfl) [] (P := (((kA l n : Int) : Int) = 0) ∧ (([db (kD l n) (List.length (kD l n))] : List D) = [db l (List.length l)])) zk ⟨(by first | rfl | exact d9 zo | exact iZ hb zo | (rw [cH (by omega)]) | (rw [eA (by omega), List.length_drop])), (by first | rw [cH (by omega)] | rw [eA (by omega), List.length_drop])⟩
  · by_cases hx2 : (n ≤ 1)
    · refine zr (qN 5 [.b false, .no, .no, .b true, .no]) [0, 1, 15] [0] ((¬ ((List.length l : Int) = 0)) ∧ ((n ≤ 1))) [(0, rV 0 0), (1, iV n), (15, bV true)] [(0, some (70, .ds [db l (List.length l)]))] 1 ⟨zo, zo⟩ ?_
      refine zt ?_
      refine kK [.no] True [(4, iV 0)] [(0, some (70, .ds [db l (List.length l)]))] 1 trivial ?_
      refine AW.ret ?_
      exact kB (.inr rfl) [] (P := (((kA l n : Int) : Int) = 0) ∧ (([db (kD l n) (List.length (kD l n))] : List D) = [db l (List.length l)])) zk ⟨(by first | rfl | exact d9 zo | exact iZ hb zo | (rw [cH (by omega)]) | (rw [eA (by omega), List.length_drop])), (by first | rw [cH (by omega)] | rw [eA (by omega), List.length_drop])⟩
    · refine zr (qN 5 [.b false, .no, .no, .b false, .no]) [0, 1, 15] [0] ((¬ ((List.length l : Int) = 0)) ∧ (¬ (n ≤ 1))) [(0, rV 0 0), (1, iV n), (15, bV false)] [(0, some (70, .ds [db l (List.length l)]))] 1 ⟨zo, zo⟩ ?_
      refine yA ?_
      have hx3 : 0 ≤ (List.getD l 0 0) ∧ (List.getD l 0 0) ≤ 255 := hb.at 0 zo
      refine kK (qN 4 [.n 0, .d (D.lit (.int .u8 (List.getD l 0 0))), .w, .no]) ((kS 0) ∧ ((0 : Nat) < (List.length l)) ∧ ((List.drop 0 (dI .u8 l))[0]? = some (D.lit (.int .u8 (List.getD l 0 0)))) ∧ (yQ (List.getD l 0 0))) [(0, rV 0 0), (1, iV n), (5, iV (List.getD l 0 0))] [(0, some (70, .ds [db l (List.length l)]))] 1 ⟨rfl, zo, (yJ _ _ _ (by first | omega | (simp only [uX, qW, List.length_append, List.length_cons, List.length_nil, List.length_take, List.length_drop, List.length_replicate, List.length_set, List.length_map, List.length_reverse, Nat.mul_one] <;> omega) | rfl)), ⟨by omega, by omega⟩⟩ ?_
      refine kK (qN 5 [.sls 1 (List.length l) ((List.length l) - 1) (dI .u8 (List.drop 1 l)), .no, .no, .no]) ((kS 1) ∧ ((List.length l) = (List.length l)) ∧ ((1 : Nat) ≤ (List.length l)) ∧ ((List.length l) ≤ (List.length l)) ∧ ((List.length l) - 1 = ((List.length l) - 1)) ∧ (List.take (((List.length l) - 1) * 1) (List.drop (1 * 1) (dI .u8 l)) = (dI .u8 (List.drop 1 l)))) [(1, iV n), (5, iV (List.getD l 0 0))] [(0, some (70, .ds [db (List.drop 1 l) ((List.length l) - 1)]))] 1 ⟨rfl, rfl, zo, zo, zo, (by first | rfl | with_reducible assumption | exact y9 _ _ _ | exact k9h _ _ _ | (simp only [dJ, aN, y9, Nat.mul_one, Nat.zero_mul, List.drop_zero, List.nil_append, List.append_nil]; done) | (simp only [dJ, aN, y9, Nat.mul_one, Nat.zero_mul, List.drop_zero, List.nil_append, List.append_nil]; rfl) | (rw [List.take_of_length_le (by simp only [uX, qW, List.length_drop, List.length_replicate, Nat.mul_one] <;> omega)]; first | rfl | (simp only [aN, Nat.mul_one, Nat.zero_mul, List.drop_zero]; done) | (simp only [aN, Nat.mul_one, Nat.zero_mul, List.drop_zero]; rfl)))⟩ ?_
      refine kT [.no, .no, .ps, .no] (((0 : Int) ≤ ((List.getD l 0 0) : Int)) ∧ ((0 : Int) < (n : Int))) [(4, iV ((List.getD l 0 0) % n))] ⟨zo, zo⟩ ?_
      refine AW.ret ?_
      exact kB (.inr rfl) [] (P := (((kA l n : Int) : Int) = ((List.getD l 0 0) % n)) ∧ (([db (kD l n) (List.length (kD l n))] : List D) = [db (List.drop 1 l) ((List.length l) - 1)])) zk ⟨(by first | rfl | exact d9 zo | exact iZ hb zo | (rw [cH (by omega)]) | (rw [eA (by omega), List.length_drop])), (by first | rw [cH (by omega)] | rw [eA (by omega), List.length_drop])⟩
end Go.Proofs.YtbicifcgghmhaaaGreat
namespace Go.Proofs.YtbicifcgghmhaaaGreat
open Go.ChangeShapes Go.WideShapes Go.ChangeAt Go.RowKit
set_option linter.unusedVariables false
set_option linter.unusedSimpArgs false
/-! chapter 10: boxes out of dice -/
set_option maxHeartbeats 4000000
set_option maxRecDepth 100000
def nY : List (List Int) := [[3], [1, 2], [1, 2, 3, 4, 5, 6], [2, 1], [1, 2, 7, 8], [4], [1, 3]]
theorem v0p : MsW nY := fun l h => by
 have h1 : ∀ l ∈ nY, List.length l ≤ 6 := by decide
 have := h1 l h; omega
def yU (l : List Int) : List Int := List.getD nY (kA l 7) []
def uP (l : List Int) : Nat → List Int
 | 0 => l
 | i + 1 => kD (uP l i) 2
def sC (sp l : List Int) : Nat → List Int
 | 0 => []
 | i + 1 => if kA (uP l i) 2 = 1 then sC sp l i ++ [List.getD sp (i * 2) 0, List.getD sp (i * 2 + 1) 0] else sC sp l i
theorem vD {l : List Int} (h : Byt l) : ∀ i, Byt (uP l i)
 | 0 => h
 | i + 1 => qR _ (vD h i)
theorem u9e {sp l : List Int} {i : Nat} {o : List Int} (h : sC sp l i = o) (h1 : kA (uP l i) 2 = 1) : sC sp l (i + 1) = o ++ [List.getD sp (i * 2) 0, List.getD sp (i * 2 + 1) 0] := by
 subst h; exact if_pos h1
theorem u9f {sp l : List Int} {i : Nat} {o : List Int} (h : sC sp l i = o) (h1 : ¬ kA (uP l i) 2 = 1) : sC sp l (i + 1) = o := by
 subst h; exact if_neg h1
def aV (sp l : List Int) (n : Nat) : List Int := if sC sp l n = [] then [List.getD sp (kA (uP l n) (n : Int) * 2) 0, List.getD sp (kA (uP l n) (n : Int) * 2 + 1) 0] else sC sp l n
def vE (sp l : List Int) (n : Nat) : List Int := if sC sp l n = [] then kD (uP l n) (n : Int) else uP l n
def aQ (sp l : List Int) (n : Nat) : Nat := (aV sp l n).length / 2
theorem aM {sp l : List Int} {n : Nat} (h : Byt l) : Byt (vE sp l n) := by unfold vE; split; exact qR _ (vD h n); exact vD h n
theorem v36 {sp l o : List Int} {n k i : Nat} (h : sC sp l i = o) (hi : i = n) (hl : o.length = k * 2) (hk : k = 0) : aV sp l n = o ++ [List.getD sp (kA (uP l i) (n : Int) * 2) 0, List.getD sp (kA (uP l i) (n : Int) * 2 + 1) 0] ∧ vE sp l n = kD (uP l i) (n : Int) ∧ aQ sp l n = k + 1 := by
 subst hi; subst hk
 have h2 : o = [] := List.eq_nil_of_length_eq_zero (by omega)
 have h0 : sC sp l i = [] := by rw [h, h2]
 have h1 : aV sp l i = [List.getD sp (kA (uP l i) (i : Int) * 2) 0, List.getD sp (kA (uP l i) (i : Int) * 2 + 1) 0] := if_pos h0
 refine ⟨by rw [h1, h2]; rfl, if_pos h0, ?_⟩
 unfold aQ; rw [h1, List.length_cons, List.length_cons, List.length_nil]
theorem v35 {sp l o : List Int} {n k i : Nat} (h : sC sp l i = o) (hi : i = n) (hl : o.length = k * 2) (hk : 1 ≤ k) : aV sp l n = o ∧ vE sp l n = uP l i ∧ aQ sp l n = k := by
 subst hi
 have h0 : ¬ sC sp l i = [] := fun e => by rw [h] at e; rw [e] at hl; have : (0 : Nat) = k * 2 := hl; omega
 have h1 : aV sp l i = o := by unfold aV; rw [if_neg h0, h]
 refine ⟨h1, if_neg h0, ?_⟩
 unfold aQ; rw [h1, hl]; omega
theorem s5 (l : List Int) : List.length (yU l) ≤ 6 := by
 have h1 : ∀ l ∈ nY, List.length l ≤ 6 := by decide
 unfold yU
 rw [List.getD_eq_getElem?_getD]
 cases e : nY[kA l 7]? with
 | none => exact Nat.zero_le _
 | some x => exact h1 x (List.mem_of_getElem? e)
theorem u1f {l : List Int} (h : Byt l) : 1 ≤ List.length (yU l) ∧ List.length (yU l) ≤ 6 := by
 refine ⟨?_, s5 l⟩
 have h1 : ∀ x ∈ nY, 1 ≤ List.length x := by decide
 have h2 := uN l 7 h
 have h3 : kA l 7 < nY.length := by show _ < 7; omega
 unfold yU
 rw [List.getD_eq_getElem?_getD, List.getElem?_eq_getElem h3]
 exact h1 _ (List.getElem_mem h3)
theorem aE {p : Prop} (h : p := by first | omega | (simp only [k8, kZ, qW, List.length_append, List.length_cons, List.length_nil, List.length_take, List.length_drop, List.length_replicate, List.length_set, List.length_map, List.length_reverse, Nat.mul_one] <;> omega) | rfl) : p := h
theorem u8s   : Fun 73 [] (kH []) 0 (qK (kL nY) 7) (kH []) 0 := by
 refine Fun.mk (n := 9) Tryz.func73 rfl rfl (Nat.le_of_ble_eq_true rfl) ?_
 intro cx hcx
 refine kK [.no] True [] [] 0 trivial ?_
 refine kK [(.fz (.no)), (.fz (.no)), (.fz (.no)), (.fz (.no)), (.fz (.no)), (.fz (.no)), (.fz (.no)), .no, .no] ((([iD 3] : List D).length = 1 * 1) ∧ (([iD 1, iD 2] : List D).length = 2 * 1) ∧ (([iD 1, iD 2, iD 3, iD 4, iD 5, iD 6] : List D).length = 6 * 1) ∧ (([iD 2, iD 1] : List D).length = 2 * 1) ∧ (([iD 1, iD 2, iD 7, iD 8] : List D).length = 4 * 1) ∧ (([iD 4] : List D).length = 1 * 1) ∧ (([iD 1, iD 3] : List D).length = 2 * 1)) [(0, oV 7 0 7 1)] [(7, some (38, .ds [D.sl [iD 3] 1, D.sl [iD 1, iD 2] 2, D.sl [iD 1, iD 2, iD 3, iD 4, iD 5, iD 6] 6, D.sl [iD 2, iD 1] 2, D.sl [iD 1, iD 2, iD 7, iD 8] 4, D.sl [iD 4] 1, D.sl [iD 1, iD 3] 2]))] 8 ⟨aE, aE, aE, aE, aE, aE, aE⟩ ?_
 refine AW.freeze 7 (l' := [(0, qK [D.sl [iD 3] 1, D.sl [iD 1, iD 2] 2, D.sl [iD 1, iD 2, iD 3, iD 4, iD 5, iD 6] 6, D.sl [iD 2, iD 1] 2, D.sl [iD 1, iD 2, iD 7, iD 8] 4, D.sl [iD 4] 1, D.sl [iD 1, iD 3] 2] 7)]) (g' := []) rfl (FzS.cons rfl (.e (.c (@FzC.own 7 ([D.sl [iD 3] 1, D.sl [iD 1, iD 2] 2, D.sl [iD 1, iD 2, iD 3, iD 4, iD 5, iD 6] 6, D.sl [iD 2, iD 1] 2, D.sl [iD 1, iD 2, iD 7, iD 8] 4, D.sl [iD 4] 1, D.sl [iD 1, iD 3] 2] : List D) 0 (7 : Nat) 1 true ([D.sl [iD 3] 1, D.sl [iD 1, iD 2] 2, D.sl [iD 1, iD 2, iD 3, iD 4, iD 5, iD 6] 6, D.sl [iD 2, iD 1] 2, D.sl [iD 1, iD 2, iD 7, iD 8] 4, D.sl [iD 4] 1, D.sl [iD 1, iD 3] 2] : List D) (by rw [List.drop_zero, Nat.mul_one, List.take_of_length_le (by first | omega | (simp only [k8, kZ, qW, List.length_append, List.length_cons, List.length_nil, List.length_take, List.length_drop, List.length_replicate, List.length_set, List.length_map, List.length_reverse, Nat.mul_one] <;> omega))]) aE))) FzS.nil) FzG.nil ?_
 refine AW.ret ?_
 exact kB (.inr rfl) [] (P := (((kL nY) : List D) = [D.sl [iD 3] 1, D.sl [iD 1, iD 2] 2, D.sl [iD 1, iD 2, iD 3, iD 4, iD 5, iD 6] 6, D.sl [iD 2, iD 1] 2, D.sl [iD 1, iD 2, iD 7, iD 8] 4, D.sl [iD 4] 1, D.sl [iD 1, iD 3] 2]) ∧ (kJ 7)) zk ⟨(by first | rfl | decide), rfl⟩
theorem v2s (l : List Int) (hb : Byt l) : Fun 43 [.c (.ptr 0 0)] (kH [(0, some (70, .ds [D.sl (dI .u8 l) (List.length l)]))]) 1 (sV .i64 (yU l) (List.length (yU l))) (kH [(0, some (70, .ds [D.sl (dI .u8 (kD l 7)) (List.length (kD l 7))]))]) 1 := by
 refine Fun.mk (n := 8) Tryz.func43 rfl rfl (Nat.le_of_ble_eq_true rfl) ?_
 intro cx hcx
 refine kK [.no] True [(0, rV 0 0)] [(0, some (70, .ds [db l (List.length l)]))] 1 trivial ?_
 have hx1 : ((((((kA l 7) : Nat) : Int) < 7) ∨ ((kA l 7) = 0)) ∧ ((kA l 7) ≤ 255)) := uN l (7 : Int) (qJ : Byt l)
 have hx2 : (Byt (kD l 7)) := qR (7 : Int) (qJ : Byt l)
 have hx3 : ((List.length (List.getD nY (kA l 7) ([] : List Int))) ≤ 1000000) := MsW.at v0p _
 refine kK [.call [] (qK (kL nY) 7) [] 0 [] none, .no, .call [0] (uV (kA l 7)) [(0, some (70, .ds [db (kD l 7) (List.length (kD l 7))]))] 1 [] none, .n (kA l 7), .d (dl (List.getD nY (kA l 7) ([] : List Int)) (List.length (List.getD nY (kA l 7) ([] : List Int)))), .no] ((_) ∧ (_) ∧ (kS (kA l 7 : Int)) ∧ ((kA l 7) < 7) ∧ ((List.drop (kA l 7) (kL nY))[0]? = some (dl (List.getD nY (kA l 7) ([] : List Int)) (List.length (List.getD nY (kA l 7) ([] : List Int)))))) [(2, sV .i64 (List.getD nY (kA l 7) ([] : List Int)) (List.length (List.getD nY (kA l 7) ([] : List Int))))] [(0, some (70, .ds [db (kD l 7) (List.length (kD l 7))]))] 1 ⟨(u8s), (c5 l 7 (qJ : Byt l)), rfl, zo, (bM _ _ (by show _ < 7; omega))⟩ ?_
 refine AW.ret ?_
 exact kB (.inr rfl) [] (P := (((dI .i64 (yU l)) : List D) = (dI .i64 (List.getD nY (kA l 7) ([] : List Int)))) ∧ (((List.length (yU l)) : Nat) = (List.length (List.getD nY (kA l 7) ([] : List Int)))) ∧ (kN [db (kD l 7) (List.length (kD l 7))])) zk ⟨(by first | rfl | decide), (by first | omega | rfl | assumption | (simp; done) | (simp; omega)), rfl⟩
abbrev dS (l : List Int) (i : Nat) : BC := .ds [D.sl (dI .u8 (uP l i)) (List.length (uP l i))]
abbrev j8 (l : List Int) (i : Nat) : BC := .ds [D.sl (dI .u8 (kD (uP l i) 2)) (List.length (kD (uP l i) 2))]
theorem u5p (sp : List Int) (n : Nat) (l : List Int) (hl : List.length sp = n * 2) (h1 : 1 ≤ n) (h2 : n ≤ 1000) (hb : Byt l) : Fun 58 [.c (.ptr 0 0), .c (.d (D.sl (dI .i64 sp) n))] (kH [(0, some (70, .ds [D.sl (dI .u8 l) (List.length l)]))]) 1 (.e (.agg [.d (D.sl (dI .i64 (e7 (aV sp l n) (aQ sp l n))) (vP (aV sp l n) (aQ sp l n)))])) (kH [(0, some (70, .ds [D.sl (dI .u8 (vE sp l n)) (List.length (vE sp l n))]))]) 1 := by
 refine Fun.mk (n := 43) Tryz.func58 rfl rfl (Nat.le_of_ble_eq_true rfl) ?_
 intro cx hcx
 refine kK [.no] True [(0, rV 0 0), (1, sV .i64 sp n), (4, rV 1 0)] [(0, some (70, .ds [db l (List.length l)])), (1, some (60, .ds [qQ]))] 2 trivial ?_
 refine kT [.no] True [(0, rV 0 0), (1, sV .i64 sp n), (4, rV 1 0), (5, nV)] trivial ?_
 refine AW.seq ?_
 refine kT [.no, .no, .no] True [(0, rV 0 0), (1, sV .i64 sp n), (4, rV 1 0), (5, nV), (10, sV .i64 sp n), (11, uV n), (12, iV 0)] trivial ?_
 refine AW.block ?_
 refine AW.adoptS 5 2 95 rfl ?_
 refine qH 1 hcx (fun (x : {x : Nat × Nat × List Int // match x with | (i, k, o) => (i ≤ n ∧ k ≤ i) ∧ (sC sp l i = o) ∧ (List.length o = k * 2)}) => match x with | ⟨(i, k, o), _⟩ => (⟨[(0, rV 0 0), (1, sV .i64 sp n), (4, rV 1 0), (5, oV 3 0 k 2), (10, sV .i64 sp n), (11, uV n), (12, uV i)], [(0, some (70, (dS l i))), (1, some (60, .ds [qQ])), (3, some (95, .ds (dI .i64 o)))], 4⟩ : ES)) (fun x => match x with | ⟨(i, k, o), _⟩ => n - i) ⟨((0 : Nat), (0 : Nat), (([] : List Int) : List Int)), ⟨(by first | omega | assumption | simp), rfl, rfl⟩⟩ [(3, 2)] (P := (kJ 0) ∧ (kN (dI .i64 sp)) ∧ (kJ n) ∧ (kJ 0) ∧ (kJ 0) ∧ (kJ 0) ∧ (kN (dI .i64 sp)) ∧ (kJ n) ∧ (kS (n : Int)) ∧ (kS 0) ∧ (([db (uP l 0) (List.length (uP l 0))] : List D) = [db l (List.length l)]) ∧ (kN [qQ]) ∧ (((dI .i64 ([] : List Int)) : List D) = ([] : List D))) zk ⟨rfl, rfl, rfl, rfl, rfl, rfl, rfl, rfl, rfl, rfl, (by first | rfl | with_reducible assumption), rfl, (by first | rfl | with_reducible assumption)⟩ ?_
 rintro ⟨⟨i, k, o⟩, hinv0⟩
 obtain ⟨hi, hS, ho⟩ : (i ≤ n ∧ k ≤ i) ∧ (sC sp l i = o) ∧ (List.length o = k * 2) := hinv0
 refine uL (l := [(0, rV 0 0), (1, sV .i64 sp n), (4, rV 1 0), (5, oV 3 0 k 2), (10, sV .i64 sp n), (11, uV n), (12, uV i)]) (g := [(0, some (70, (dS l i))), (1, some (60, .ds [qQ])), (3, some (95, .ds (dI .i64 o)))]) (nx := 4) rfl rfl rfl ?_
 by_cases hx1 : (((i : Nat) : Int) < ((n : Nat) : Int))
 ·refine kK [.b true] (((i : Int) < (n : Int))) [(0, rV 0 0), (1, sV .i64 sp n), (4, rV 1 0), (5, oV 3 0 k 2), (10, sV .i64 sp n), (11, uV n), (12, uV i), (13, bV true)] [(0, some (70, (dS l i))), (1, some (60, .ds [qQ])), (3, some (95, .ds (dI .i64 o)))] 4 zo ?_
  refine AW.seq ?_
  refine vR ?_
  refine AW.seq ?_
  refine AW.block ?_
  refine kK [.n i, .ds [iD (List.getD sp (i * 2) 0), iD (List.getD sp ((i * 2) + 1) 0)], .no, .no] ((kS (i : Int)) ∧ (i < n) ∧ (List.take 2 (List.drop (i * 2) (dI .i64 sp)) = [iD (List.getD sp (i * 2) 0), iD (List.getD sp ((i * 2) + 1) 0)]) ∧ (([iD (List.getD sp (i * 2) 0), iD (List.getD sp ((i * 2) + 1) 0)] : List D).length = 2)) [(0, rV 0 0), (1, sV .i64 sp n), (4, rV 1 0), (5, oV 3 0 k 2), (7, rV 4 0), (10, sV .i64 sp n), (11, uV n), (12, uV i)] [(0, some (70, (dS l i))), (1, some (60, .ds [qQ])), (3, some (95, .ds (dI .i64 o))), (4, some (95, .ds [iD (List.getD sp (i * 2) 0), iD (List.getD sp ((i * 2) + 1) 0)]))] 5 ⟨rfl, zo, (b9 .i64 sp (i * 2) 2 aE), rfl⟩ ?_
  by_cases hx4 : ((((kA (uP l i) 2) : Nat) : Int) = 1)
  ·have hx5 : ((((((kA (uP l i) 2) : Nat) : Int) < 2) ∨ ((kA (uP l i) 2) = 0)) ∧ ((kA (uP l i) 2) ≤ 255)) := uN (uP l i) (2 : Int) ((vD (qJ : Byt l) _))
   have hx6 : (Byt (kD (uP l i) 2)) := qR (2 : Int) ((vD (qJ : Byt l) _))
   refine kK [.no, .call [0] (uV (kA (uP l i) 2)) [(0, some (70, (j8 l i)))] 1 [] none, .b true] ((_) ∧ (((kA (uP l i) 2 : Int) = 1))) [(0, rV 0 0), (1, sV .i64 sp n), (4, rV 1 0), (5, oV 3 0 k 2), (7, rV 4 0), (10, sV .i64 sp n), (11, uV n), (12, uV i), (18, bV true)] [(0, some (70, (j8 l i))), (1, some (60, .ds [qQ])), (3, some (95, .ds (dI .i64 o))), (4, some (95, .ds [iD (List.getD sp (i * 2) 0), iD (List.getD sp ((i * 2) + 1) 0)]))] 5 ⟨(c5 (uP l i) 2 (vD (qJ : Byt l) _)), zo⟩ ?_
   refine zt ?_
   refine aG [.no, .no, .no, .ap none (k + 1) (dI .i64 (o ++ ([(List.getD sp (i * 2) 0), (List.getD sp ((i * 2) + 1) 0)] : List Int))), .no] (([iD (List.getD sp (i * 2) 0), iD (List.getD sp ((i * 2) + 1) 0)].length = 1 * 2) ∧ (((dI .i64 o) : List D).length = k * 2) ∧ ((k + 1) * 16 ≤ 140737488355328) ∧ (k + 1 = (k + 1)) ∧ (((dI .i64 o) : List D) ++ [iD (List.getD sp (i * 2) 0), iD (List.getD sp ((i * 2) + 1) 0)] = (dI .i64 (o ++ ([(List.getD sp (i * 2) 0), (List.getD sp ((i * 2) + 1) 0)] : List Int))))) [(0, rV 0 0), (1, sV .i64 sp n), (4, rV 1 0), (5, oV 6 0 (k + 1) 2), (10, sV .i64 sp n), (11, uV n), (12, uV i)] [(0, some (70, (j8 l i))), (1, some (60, .ds [qQ])), (6, some (95, .ds (dI .i64 (o ++ ([(List.getD sp (i * 2) 0), (List.getD sp ((i * 2) + 1) 0)] : List Int)))))] 7 ⟨aE, aE, zo, zo, (y9 .i64 o ([(List.getD sp (i * 2) 0), (List.getD sp ((i * 2) + 1) 0)] : List Int))⟩ ?_
   refine yT [.w, .no] (yQ ((i : Int) + 1)) [(0, rV 0 0), (1, sV .i64 sp n), (4, rV 1 0), (5, oV 6 0 (k + 1) 2), (10, sV .i64 sp n), (11, uV n), (12, iV (↑i + 1))] ⟨by omega, by omega⟩ ?_
   exact qE ⟨(((i + 1) : Nat), ((k + 1) : Nat), ((o ++ ([(List.getD sp (i * 2) 0), (List.getD sp ((i * 2) + 1) 0)] : List Int)) : List Int)), ⟨(by first | omega | assumption | simp), (by first | exact u9e hS zo | exact u9f hS zo), (by first | assumption | (simp only [k8, kZ, List.length_append, List.length_cons, List.length_nil] <;> omega))⟩⟩ [(3, 6)] (P := (kJ 0) ∧ (kN (dI .i64 sp)) ∧ (kJ n) ∧ (kJ 0) ∧ (kJ 0) ∧ (kJ (k + 1)) ∧ (kN (dI .i64 sp)) ∧ (kJ n) ∧ (kS (n : Int)) ∧ (c7 i) ∧ (([db (uP l (i + 1)) (List.length (uP l (i + 1)))] : List D) = [db (kD (uP l i) 2) (List.length (kD (uP l i) 2))]) ∧ (kN [qQ]) ∧ (kN (dI .i64 (o ++ ([(List.getD sp (i * 2) 0), (List.getD sp ((i * 2) + 1) 0)] : List Int))))) zk ⟨rfl, rfl, rfl, rfl, rfl, rfl, rfl, rfl, rfl, (by first | rfl | omega | assumption | (simp; done) | (simp; omega)), (by first | rfl | with_reducible assumption), rfl, rfl⟩ (show n - (i + 1) < n - i from (by first | omega | (show _ < _; simp; omega)))
  ·have hx7 : ((((((kA (uP l i) 2) : Nat) : Int) < 2) ∨ ((kA (uP l i) 2) = 0)) ∧ ((kA (uP l i) 2) ≤ 255)) := uN (uP l i) (2 : Int) ((vD (qJ : Byt l) _))
   have hx8 : (Byt (kD (uP l i) 2)) := qR (2 : Int) ((vD (qJ : Byt l) _))
   refine kK [.no, .call [0] (uV (kA (uP l i) 2)) [(0, some (70, (j8 l i)))] 1 [] none, .b false] ((_) ∧ (¬ ((kA (uP l i) 2 : Int) = 1))) [(0, rV 0 0), (1, sV .i64 sp n), (4, rV 1 0), (5, oV 3 0 k 2), (7, rV 4 0), (10, sV .i64 sp n), (11, uV n), (12, uV i), (18, bV false)] [(0, some (70, (j8 l i))), (1, some (60, .ds [qQ])), (3, some (95, .ds (dI .i64 o))), (4, some (95, .ds [iD (List.getD sp (i * 2) 0), iD (List.getD sp ((i * 2) + 1) 0)]))] 5 ⟨(c5 (uP l i) 2 (vD (qJ : Byt l) _)), zo⟩ ?_
   refine yA ?_
   refine aG [.w, .no] (yQ ((i : Int) + 1)) [(0, rV 0 0), (1, sV .i64 sp n), (4, rV 1 0), (5, oV 3 0 k 2), (10, sV .i64 sp n), (11, uV n), (12, iV (↑i + 1))] [(0, some (70, (j8 l i))), (1, some (60, .ds [qQ])), (3, some (95, .ds (dI .i64 o)))] 5 ⟨by omega, by omega⟩ ?_
   exact qE ⟨(((i + 1) : Nat), (k : Nat), (o : List Int)), ⟨(by first | omega | assumption | simp), (by first | exact u9e hS zo | exact u9f hS zo), (by first | assumption | (simp only [k8, kZ, List.length_append, List.length_cons, List.length_nil] <;> omega))⟩⟩ [] (P := (kJ 0) ∧ (kN (dI .i64 sp)) ∧ (kJ n) ∧ (kJ 0) ∧ (kJ 0) ∧ (kJ k) ∧ (kN (dI .i64 sp)) ∧ (kJ n) ∧ (kS (n : Int)) ∧ (c7 i) ∧ (([db (uP l (i + 1)) (List.length (uP l (i + 1)))] : List D) = [db (kD (uP l i) 2) (List.length (kD (uP l i) 2))]) ∧ (kN [qQ]) ∧ (kN (dI .i64 o))) zk ⟨rfl, rfl, rfl, rfl, rfl, rfl, rfl, rfl, rfl, (by first | rfl | omega | assumption | (simp; done) | (simp; omega)), (by first | rfl | with_reducible assumption), rfl, rfl⟩ (show n - (i + 1) < n - i from (by first | omega | (show _ < _; simp; omega)))
 ·refine kK [.b false] (¬ ((i : Int) < (n : Int))) [(0, rV 0 0), (1, sV .i64 sp n), (4, rV 1 0), (5, oV 3 0 k 2), (10, sV .i64 sp n), (11, uV n), (12, uV i), (13, bV false)] [(0, some (70, (dS l i))), (1, some (60, .ds [qQ])), (3, some (95, .ds (dI .i64 o)))] 4 zo ?_
  refine AW.seq ?_
  refine zf ?_
  refine AW.exit ?_
  refine AW.seq ?_
  by_cases hx9 : (((k : Nat) : Int) = 0)
  ·refine kK [.no, .no, .b true] (((k : Int) = 0)) [(0, rV 0 0), (1, sV .i64 sp n), (4, rV 1 0), (5, oV 3 0 k 2), (26, bV true)] [(0, some (70, (dS l i))), (1, some (60, .ds [qQ])), (3, some (95, .ds (dI .i64 o)))] 4 zo ?_
   refine zt ?_
   have hx10 : ((((((kA (uP l i) ((n : Nat) : Int)) : Nat) : Int) < ((n : Nat) : Int)) ∨ ((kA (uP l i) ((n : Nat) : Int)) = 0)) ∧ ((kA (uP l i) ((n : Nat) : Int)) ≤ 255)) := uN (uP l i) ((n : Nat) : Int) ((vD (qJ : Byt l) _))
   have hx11 : (Byt (kD (uP l i) ((n : Nat) : Int))) := qR ((n : Nat) : Int) ((vD (qJ : Byt l) _))
   refine aG (qN 5 [.call [0] (uV (kA (uP l i) (n : Int))) [(0, some (70, .ds [db (kD (uP l i) (n : Int)) (List.length (kD (uP l i) (n : Int)))]))] 1 [] none, .n (kA (uP l i) (n : Int)), .ds [iD (List.getD sp ((kA (uP l i) (n : Int)) * 2) 0), iD (List.getD sp (((kA (uP l i) (n : Int)) * 2) + 1) 0)], .no, .ap none (k + 1) (dI .i64 (o ++ ([(List.getD sp ((kA (uP l i) (n : Int)) * 2) 0), (List.getD sp (((kA (uP l i) (n : Int)) * 2) + 1) 0)] : List Int))), .no]) ((_) ∧ (kS (((kA (uP l i) (n : Int)) : Nat) : Int)) ∧ ((kA (uP l i) (n : Int)) < n) ∧ (List.take 2 (List.drop ((kA (uP l i) (n : Int)) * 2) (dI .i64 sp)) = [iD (List.getD sp ((kA (uP l i) (n : Int)) * 2) 0), iD (List.getD sp (((kA (uP l i) (n : Int)) * 2) + 1) 0)]) ∧ (([iD (List.getD sp ((kA (uP l i) (n : Int)) * 2) 0), iD (List.getD sp (((kA (uP l i) (n : Int)) * 2) + 1) 0)] : List D).length = 2) ∧ ([iD (List.getD sp ((kA (uP l i) (n : Int)) * 2) 0), iD (List.getD sp (((kA (uP l i) (n : Int)) * 2) + 1) 0)].length = 1 * 2) ∧ (((dI .i64 o) : List D).length = k * 2) ∧ ((k + 1) * 16 ≤ 140737488355328) ∧ (k + 1 = (k + 1)) ∧ (((dI .i64 o) : List D) ++ [iD (List.getD sp ((kA (uP l i) (n : Int)) * 2) 0), iD (List.getD sp (((kA (uP l i) (n : Int)) * 2) + 1) 0)] = (dI .i64 (o ++ ([(List.getD sp ((kA (uP l i) (n : Int)) * 2) 0), (List.getD sp (((kA (uP l i) (n : Int)) * 2) + 1) 0)] : List Int))))) [(4, rV 1 0), (5, oV 5 0 (k + 1) 2)] [(0, some (70, .ds [db (kD (uP l i) ↑n) (List.length (kD (uP l i) ↑n))])), (1, some (60, .ds [qQ])), (5, some (95, .ds (dI .i64 (o ++ ([(List.getD sp ((kA (uP l i) ↑n) * 2) 0), (List.getD sp (((kA (uP l i) ↑n) * 2) + 1) 0)] : List Int)))))] 6 ⟨(c5 (uP l i) (n : Int) (vD (qJ : Byt l) _)), rfl, zo, (b9 .i64 sp ((kA (uP l i) (n : Int)) * 2) 2 aE), rfl, aE, aE, zo, zo, (y9 .i64 o ([(List.getD sp ((kA (uP l i) (n : Int)) * 2) 0), (List.getD sp (((kA (uP l i) (n : Int)) * 2) + 1) 0)] : List Int))⟩ ?_
   refine AW.freeze 5 (l' := [(4, rV 1 0), (5, sV .i64 (o ++ ([(List.getD sp ((kA (uP l i) (n : Int)) * 2) 0), (List.getD sp (((kA (uP l i) (n : Int)) * 2) + 1) 0)] : List Int)) (k + 1))]) (g' := [(0, some (70, .ds [db (kD (uP l i) (n : Int)) (List.length (kD (uP l i) (n : Int)))])), (1, some (60, .ds [qQ]))]) rfl (FzS.cons rfl (.same _) (FzS.cons rfl (.e (.c (@FzC.own 5 ((dI .i64 (o ++ ([(List.getD sp ((kA (uP l i) (n : Int)) * 2) 0), (List.getD sp (((kA (uP l i) (n : Int)) * 2) + 1) 0)] : List Int))) : List D) 0 (k + 1) 2 true ((dI .i64 (o ++ ([(List.getD sp ((kA (uP l i) (n : Int)) * 2) 0), (List.getD sp (((kA (uP l i) (n : Int)) * 2) + 1) 0)] : List Int))) : List D) (by rw [List.drop_zero, List.take_of_length_le (by first | omega | (simp only [k8, kZ, qW, List.length_append, List.length_cons, List.length_nil, List.length_take, List.length_drop, List.length_replicate, List.length_set, List.length_map, List.length_reverse, Nat.mul_one] <;> omega))]) aE))) FzS.nil)) (yW rfl rfl (yW rfl rfl FzG.nil)) ?_
   have hx12 : ((List.length (e7 (o ++ ([(List.getD sp ((kA (uP l i) ((n : Nat) : Int)) * 2) 0), (List.getD sp (((kA (uP l i) ((n : Nat) : Int)) * 2) + 1) 0)] : List Int)) (k + 1))) = ((vP (o ++ ([(List.getD sp ((kA (uP l i) ((n : Nat) : Int)) * 2) 0), (List.getD sp (((kA (uP l i) ((n : Nat) : Int)) * 2) + 1) 0)] : List Int)) (k + 1)) * 2)) := i4 (o ++ ([(List.getD sp ((kA (uP l i) ((n : Nat) : Int)) * 2) 0), (List.getD sp (((kA (uP l i) ((n : Nat) : Int)) * 2) + 1) 0)] : List Int)) (k + 1)
   have hx13 : ((((0 : Int) ≤ (o6 (o ++ ([(List.getD sp ((kA (uP l i) ((n : Nat) : Int)) * 2) 0), (List.getD sp (((kA (uP l i) ((n : Nat) : Int)) * 2) + 1) 0)] : List Int)) (k + 1))) ∧ ((o6 (o ++ ([(List.getD sp ((kA (uP l i) ((n : Nat) : Int)) * 2) 0), (List.getD sp (((kA (uP l i) ((n : Nat) : Int)) * 2) + 1) 0)] : List Int)) (k + 1)) ≤ 3)) ∧ ((vP (o ++ ([(List.getD sp ((kA (uP l i) ((n : Nat) : Int)) * 2) 0), (List.getD sp (((kA (uP l i) ((n : Nat) : Int)) * 2) + 1) 0)] : List Int)) (k + 1)) ≤ 64)) := nZ (o ++ ([(List.getD sp ((kA (uP l i) ((n : Nat) : Int)) * 2) 0), (List.getD sp (((kA (uP l i) ((n : Nat) : Int)) * 2) + 1) 0)] : List Int)) (k + 1)
   refine kK (.no :: .call [] (.tup [.agg [.d (dl (e7 (o ++ ([(List.getD sp ((kA (uP l i) (n : Int)) * 2) 0), (List.getD sp (((kA (uP l i) (n : Int)) * 2) + 1) 0)] : List Int)) (k + 1)) (vP (o ++ ([(List.getD sp ((kA (uP l i) (n : Int)) * 2) 0), (List.getD sp (((kA (uP l i) (n : Int)) * 2) + 1) 0)] : List Int)) (k + 1)))], iE (o6 (o ++ ([(List.getD sp ((kA (uP l i) (n : Int)) * 2) 0), (List.getD sp (((kA (uP l i) (n : Int)) * 2) + 1) 0)] : List Int)) (k + 1))]) [] 0 [] none :: qN 6 []) _ [(4, rV 1 0), (8, rV 6 0)] [(0, some (70, .ds [db (kD (uP l i) ↑n) (List.length (kD (uP l i) ↑n))])), (1, some (60, .ds [qQ])), (6, some (60, .ds [dl (e7 (o ++ ([(List.getD sp ((kA (uP l i) ↑n) * 2) 0), (List.getD sp (((kA (uP l i) ↑n) * 2) + 1) 0)] : List Int)) (k + 1)) (vP (o ++ ([(List.getD sp ((kA (uP l i) ↑n) * 2) 0), (List.getD sp (((kA (uP l i) ↑n) * 2) + 1) 0)] : List Int)) (k + 1))]))] 7 (k3j (o ++ ([(List.getD sp ((kA (uP l i) (n : Int)) * 2) 0), (List.getD sp (((kA (uP l i) (n : Int)) * 2) + 1) 0)] : List Int)) (k + 1) (by first | omega | with_reducible assumption | (simp only [k8, kZ, List.length_append, List.length_cons, List.length_nil, List.length_take, List.length_drop, List.length_replicate, List.length_set] <;> omega) | rfl | assumption) zo) ?_
   refine kK [.no, .no] True [(4, rV 1 0)] [(0, some (70, .ds [db (kD (uP l i) ↑n) (List.length (kD (uP l i) ↑n))])), (1, some (60, .ds [dl (e7 (o ++ ([(List.getD sp ((kA (uP l i) ↑n) * 2) 0), (List.getD sp (((kA (uP l i) ↑n) * 2) + 1) 0)] : List Int)) (k + 1)) (vP (o ++ ([(List.getD sp ((kA (uP l i) ↑n) * 2) 0), (List.getD sp (((kA (uP l i) ↑n) * 2) + 1) 0)] : List Int)) (k + 1))]))] 7 trivial ?_
   obtain ⟨hz1, hz2, hz3⟩ := v36 hS (show i = n by omega) ho zo
   refine AW.ret ?_
   exact kB (.inr rfl) [] (P := (((dI .i64 (e7 (aV sp l n) (aQ sp l n))) : List D) = (dI .i64 (e7 (o ++ ([(List.getD sp ((kA (uP l i) (n : Int)) * 2) 0), (List.getD sp (((kA (uP l i) (n : Int)) * 2) + 1) 0)] : List Int)) (k + 1)))) ∧ (((vP (aV sp l n) (aQ sp l n)) : Nat) = (vP (o ++ ([(List.getD sp ((kA (uP l i) (n : Int)) * 2) 0), (List.getD sp (((kA (uP l i) (n : Int)) * 2) + 1) 0)] : List Int)) (k + 1))) ∧ (([db (vE sp l n) (List.length (vE sp l n))] : List D) = [db (kD (uP l i) (n : Int)) (List.length (kD (uP l i) (n : Int)))])) zk ⟨(by first | rfl | (rw [hz1, hz3]; done) | (rw [hz1, hz3]; rfl) | (rw [hz2]; done) | (rw [hz2]; rfl)), (by first | rfl | (rw [hz1, hz3]; done) | (rw [hz2]; done) | omega), (by first | rfl | (rw [hz1, hz3]; done) | (rw [hz1, hz3]; rfl) | (rw [hz2]; done) | (rw [hz2]; rfl))⟩
  ·refine kK [.no, .no, .b false] (¬ ((k : Int) = 0)) [(0, rV 0 0), (1, sV .i64 sp n), (4, rV 1 0), (5, oV 3 0 k 2), (26, bV false)] [(0, some (70, (dS l i))), (1, some (60, .ds [qQ])), (3, some (95, .ds (dI .i64 o)))] 4 zo ?_
   refine yA ?_
   refine AW.freeze 3 (l' := [(0, rV 0 0), (1, sV .i64 sp n), (4, rV 1 0), (5, sV .i64 o k), (26, bV false)]) (g' := [(0, some (70, (dS l i))), (1, some (60, .ds [qQ]))]) rfl (FzS.cons rfl (.same _) (FzS.cons rfl (.same _) (FzS.cons rfl (.same _) (FzS.cons rfl (.e (.c (@FzC.own 3 ((dI .i64 o) : List D) 0 k 2 true ((dI .i64 o) : List D) (by rw [List.drop_zero, List.take_of_length_le (by first | omega | (simp only [k8, kZ, qW, List.length_append, List.length_cons, List.length_nil, List.length_take, List.length_drop, List.length_replicate, List.length_set, List.length_map, List.length_reverse, Nat.mul_one] <;> omega))]) aE))) (FzS.cons rfl (.same _) FzS.nil))))) (yW rfl rfl (yW rfl rfl FzG.nil)) ?_
   have hx14 : ((List.length (e7 o k)) = ((vP o k) * 2)) := i4 o k
   have hx15 : ((((0 : Int) ≤ (o6 o k)) ∧ ((o6 o k) ≤ 3)) ∧ ((vP o k) ≤ 64)) := nZ o k
   refine kK (.no :: .call [] (.tup [.agg [.d (dl (e7 o k) (vP o k))], iE (o6 o k)]) [] 0 [] none :: qN 6 []) _ [(4, rV 1 0), (8, rV 4 0)] [(0, some (70, (dS l i))), (1, some (60, .ds [qQ])), (4, some (60, .ds [dl (e7 o k) (vP o k)]))] 5 (k3j o k zo zo) ?_
   refine kK [.no, .no] True [(4, rV 1 0)] [(0, some (70, (dS l i))), (1, some (60, .ds [dl (e7 o k) (vP o k)]))] 5 trivial ?_
   obtain ⟨hz1, hz2, hz3⟩ := v35 hS (show i = n by omega) ho zo
   refine AW.ret ?_
   exact kB (.inr rfl) [] (P := (((dI .i64 (e7 (aV sp l n) (aQ sp l n))) : List D) = (dI .i64 (e7 o k))) ∧ (((vP (aV sp l n) (aQ sp l n)) : Nat) = (vP o k)) ∧ (([db (vE sp l n) (List.length (vE sp l n))] : List D) = [db (uP l i) (List.length (uP l i))])) zk ⟨(by first | rfl | (rw [hz1, hz3]; done) | (rw [hz1, hz3]; rfl) | (rw [hz2]; done) | (rw [hz2]; rfl)), (by first | rfl | (rw [hz1, hz3]; done) | (rw [hz2]; done) | omega), (by first | rfl | (rw [hz1, hz3]; done) | (rw [hz1, hz3]; rfl) | (rw [hz2]; done) | (rw [hz2]; rfl))⟩
end Go.Proofs.YtbicifcgghmhaaaGreat
