/- Merged texts. -/
import Derived.Test.YtbicifcgghmhaaaGreatZLBy
import Derived.Test.YtbicifcgghmhaaaGreatZL10D
namespace Go.Proofs.YtbicifcgghmhaaaGreat
open Go.ChangeShapes Go.WideShapes Go.ChangeAt Go.RowKit
set_option linter.unusedVariables false
set_option linter.unusedSimpArgs false
set_option maxHeartbeats 4000000
set_option maxRecDepth 100000
def kD (l : List Int) (n : Int) : Nat := if l.length = 0 ∨ n ≤ 1 then 0 else (List.getD l 0 0 % n).toNat
def kC (l : List Int) (n : Int) : List Int := if l.length = 0 ∨ n ≤ 1 then l else List.drop 1 l
theorem fN {l : List Int} {n : Int} (h : l.length = 0 ∨ n ≤ 1) : ((kD l n : Nat) : Int) = 0 := by unfold kD; rw [if_pos h]; rfl
theorem pF {l : List Int} {n : Int} (h : l.length = 0 ∨ n ≤ 1) : kC l n = l := if_pos h
theorem wS {l : List Int} {n : Int} (hb : Byt l) (h : ¬ (l.length = 0 ∨ n ≤ 1)) : ((kD l n : Nat) : Int) = List.getD l 0 0 % n := by
  unfold kD; rw [if_neg h]; exact Int.toNat_of_nonneg (Int.emod_nonneg _ (by omega))
theorem k6t {l : List Int} {n : Int} (h : ¬ (l.length = 0 ∨ n ≤ 1)) : kC l n = List.drop 1 l := if_neg h
theorem qH {l : List Int} (n : Int) (h : Byt l) : Byt (kC l n) := by
  unfold kC; split
  · exact h
  · exact h.drop 1
theorem q8 (l : List Int) (n : Int) (h : Byt l) : (((kD l n : Nat) : Int) < n ∨ kD l n = 0) ∧ kD l n ≤ 255 := by
  by_cases hn : l.length = 0 ∨ n ≤ 1
  · have := fN hn; omega
  · have e0 := wS h hn
    have h0 := Byt.at h 0 (by omega)
    have e3 := Int.emod_lt_of_pos (List.getD l 0 0) (b := n) (by omega)
    have e1 := Int.mul_ediv_add_emod (List.getD l 0 0) n
    have e2 : 0 ≤ n * (List.getD l 0 0 / n) := Int.mul_nonneg (by omega) (Int.ediv_nonneg h0.1 (by omega))
    omega
@[reducible] def q1T (n : Nat) (s : List Int) : List Int := (List.take (min n 300) s)
theorem v3u (l : List Int) (n : Nat) (hn : List.length l = n) (hb : n ≤ 9223372036854775807) : Fun 13 [.c (.d (D.sl (dI .u8 l) n))] (kF []) 0 (rV 0 0) (kF [(0, some (70, .ds [D.sl (dI .u8 (q1T n l)) (List.length (q1T n l))]))]) 1 := by
  refine Fun.mk (n := 10) Tryz.func13 rfl rfl (Nat.le_of_ble_eq_true rfl) ?_
  intro cx hcx
  refine kH [.no] True [(0, sV .u8 l n)] [] 0 trivial ?_
  refine kH (qE 4 [.sls 0 (min n 300) (min n 300) (dI .u8 (q1T n l)), .no, .no, .no]) ((kG 0) ∧ (((min (n : Int) 300) : Int) = (((min n 300) : Nat) : Int)) ∧ ((0 : Nat) ≤ (min n 300)) ∧ ((min n 300) ≤ n) ∧ ((min n 300) - 0 = (min n 300)) ∧ (List.take ((min n 300) * 1) (List.drop (0 * 1) (dI .u8 l)) = (dI .u8 (q1T n l)))) [(2, rV 0 0)] [(0, some (70, .ds [db (q1T n l) (min n 300)]))] 1 ⟨rfl, zo, zo, zo, zo, (by (simp only [s6, l3, a8, Nat.mul_one, Nat.zero_mul, List.drop_zero, List.nil_append, List.append_nil]; done))⟩ ?_
  refine AW.ret ?_
  exact kA (.inr rfl) [] (P := (kG 0) ∧ (([db (q1T n l) (List.length (q1T n l))] : List D) = [db (q1T n l) (min n 300)])) zk ⟨rfl, (by have e9 : (q1T n l).length = min n 300 := (by rw [List.length_take]; omega); rw [e9])⟩
theorem cQ (l : List Int) (n : Int) (hb : Byt l) : Fun 30 [.c (.ptr 0 0), iE n] (kF [(0, some (70, .ds [D.sl (dI .u8 l) (List.length l)]))]) 1 (iV (((kD l n) : Nat) : Int)) (kF [(0, some (70, .ds [D.sl (dI .u8 (kC l n)) (List.length (kC l n))]))]) 1 := by
  refine Fun.mk (n := 34) Tryz.func30 rfl rfl (Nat.le_of_ble_eq_true rfl) ?_
  intro cx hcx
  refine kH [.no] True [(0, rV 0 0), (1, iV n)] [(0, some (70, .ds [db l (List.length l)]))] 1 trivial ?_
  refine AW.seq ?_
  by_cases hx1 : ((((List.length l) : Nat) : Int) = 0)
  · refine zr (qE 5 [.b true, .no, .no]) [0, 1, 15] [0] (((List.length l : Int) = 0)) [(0, rV 0 0), (1, iV n), (15, bV true)] [(0, some (70, .ds [db l (List.length l)]))] 1 zo ?_
    refine zt ?_
    refine kH [.no] True [(4, iV 0)] [(0, some (70, .ds [db l (List.length l)]))] 1 trivial ?_
    refine AW.ret ?_
    exact kA (.inr rfl) [] (P := (((kD l n : Int) : Int) = 0) ∧ (([db (kC l n) (List.length (kC l n))] : List D) = [db l (List.length l)])) zk ⟨(by exact fN zo), (by rw [pF (by omega)])⟩
  · by_cases hx2 : (n ≤ 1)
    · refine zr (qE 5 [.b false, .no, .no, .b true, .no]) [0, 1, 15] [0] ((¬ ((List.length l : Int) = 0)) ∧ ((n ≤ 1))) [(0, rV 0 0), (1, iV n), (15, bV true)] [(0, some (70, .ds [db l (List.length l)]))] 1 ⟨zo, zo⟩ ?_
      refine zt ?_
      refine kH [.no] True [(4, iV 0)] [(0, some (70, .ds [db l (List.length l)]))] 1 trivial ?_
      refine AW.ret ?_
      exact kA (.inr rfl) [] (P := (((kD l n : Int) : Int) = 0) ∧ (([db (kC l n) (List.length (kC l n))] : List D) = [db l (List.length l)])) zk ⟨(by exact fN zo), (by rw [pF (by omega)])⟩
    · refine zr (qE 5 [.b false, .no, .no, .b false, .no]) [0, 1, 15] [0] ((¬ ((List.length l : Int) = 0)) ∧ (¬ (n ≤ 1))) [(0, rV 0 0), (1, iV n), (15, bV false)] [(0, some (70, .ds [db l (List.length l)]))] 1 ⟨zo, zo⟩ ?_
      refine uO ?_
      have hx3 : 0 ≤ (List.getD l 0 0) ∧ (List.getD l 0 0) ≤ 255 := hb.at 0 zo
      refine kH (qE 4 [.n 0, .d (D.lit (.int .u8 (List.getD l 0 0))), .w, .no]) ((kM 0) ∧ ((0 : Nat) < (List.length l)) ∧ ((List.drop 0 (dI .u8 l))[0]? = some (D.lit (.int .u8 (List.getD l 0 0)))) ∧ (u3 (List.getD l 0 0))) [(0, rV 0 0), (1, iV n), (5, iV (List.getD l 0 0))] [(0, some (70, .ds [db l (List.length l)]))] 1 ⟨rfl, zo, (yF _ _ _ zo), ⟨by omega, by omega⟩⟩ ?_
      refine kH (qE 5 [.sls 1 (List.length l) ((List.length l) - 1) (dI .u8 (List.drop 1 l)), .no, .no, .no]) ((kM 1) ∧ ((List.length l) = (List.length l)) ∧ ((1 : Nat) ≤ (List.length l)) ∧ ((List.length l) ≤ (List.length l)) ∧ ((List.length l) - 1 = ((List.length l) - 1)) ∧ (List.take (((List.length l) - 1) * 1) (List.drop (1 * 1) (dI .u8 l)) = (dI .u8 (List.drop 1 l)))) [(1, iV n), (5, iV (List.getD l 0 0))] [(0, some (70, .ds [db (List.drop 1 l) ((List.length l) - 1)]))] 1 ⟨rfl, rfl, zo, zo, zo, (by (rw [List.take_of_length_le (by simp only [y5, qQ, List.length_drop, List.length_replicate, Nat.mul_one] <;> omega)]; (simp only [l3, Nat.mul_one, Nat.zero_mul, List.drop_zero]; done)))⟩ ?_
      refine kS [.no, .no, .ps, .no] (((0 : Int) ≤ ((List.getD l 0 0) : Int)) ∧ ((0 : Int) < (n : Int))) [(4, iV ((List.getD l 0 0) % n))] ⟨zo, zo⟩ ?_
      refine AW.ret ?_
      exact kA (.inr rfl) [] (P := (((kD l n : Int) : Int) = ((List.getD l 0 0) % n)) ∧ (([db (kC l n) (List.length (kC l n))] : List D) = [db (List.drop 1 l) ((List.length l) - 1)])) zk ⟨(by exact wS hb zo), (by rw [k6t (by omega), List.length_drop])⟩
end Go.Proofs.YtbicifcgghmhaaaGreat
namespace Go.Proofs.YtbicifcgghmhaaaGreat
open Go.ChangeShapes Go.WideShapes Go.ChangeAt Go.RowKit
set_option linter.unusedVariables false
set_option linter.unusedSimpArgs false
/-! chapter 10: boxes out of dice -/
set_option maxHeartbeats 4000000
set_option maxRecDepth 100000
def nE : List (List Int) := [[3], [1, 2], [1, 2, 3, 4, 5, 6], [2, 1], [1, 2, 7, 8], [4], [1, 3]]
theorem v1q : MsW nE := fun l h => by
 have h1 : ∀ l ∈ nE, List.length l ≤ 6 := by decide
 have := h1 l h; omega
def yC (l : List Int) : List Int := List.getD nE (kD l 7) []
def uA (l : List Int) : Nat → List Int
 | 0 => l
 | i + 1 => kC (uA l i) 2
def rK (sp l : List Int) : Nat → List Int
 | 0 => []
 | i + 1 => if kD (uA l i) 2 = 1 then rK sp l i ++ [List.getD sp (i * 2) 0, List.getD sp (i * 2 + 1) 0] else rK sp l i
theorem yU {l : List Int} (h : Byt l) : ∀ i, Byt (uA l i)
 | 0 => h
 | i + 1 => qH _ (yU h i)
theorem v4c {sp l : List Int} {i : Nat} {o : List Int} (h : rK sp l i = o) (h1 : kD (uA l i) 2 = 1) : rK sp l (i + 1) = o ++ [List.getD sp (i * 2) 0, List.getD sp (i * 2 + 1) 0] := by
 subst h; exact if_pos h1
theorem v4d {sp l : List Int} {i : Nat} {o : List Int} (h : rK sp l i = o) (h1 : ¬ kD (uA l i) 2 = 1) : rK sp l (i + 1) = o := by
 subst h; exact if_neg h1
def aN (sp l : List Int) (n : Nat) : List Int := if rK sp l n = [] then [List.getD sp (kD (uA l n) (n : Int) * 2) 0, List.getD sp (kD (uA l n) (n : Int) * 2 + 1) 0] else rK sp l n
def yV (sp l : List Int) (n : Nat) : List Int := if rK sp l n = [] then kC (uA l n) (n : Int) else uA l n
def aG (sp l : List Int) (n : Nat) : Nat := (aN sp l n).length / 2
theorem aE {sp l : List Int} {n : Nat} (h : Byt l) : Byt (yV sp l n) := by unfold yV; split; exact qH _ (yU h n); exact yU h n
theorem v4j {sp l o : List Int} {n k i : Nat} (h : rK sp l i = o) (hi : i = n) (hl : o.length = k * 2) (hk : k = 0) : aN sp l n = o ++ [List.getD sp (kD (uA l i) (n : Int) * 2) 0, List.getD sp (kD (uA l i) (n : Int) * 2 + 1) 0] ∧ yV sp l n = kC (uA l i) (n : Int) ∧ aG sp l n = k + 1 := by
 subst hi; subst hk
 have h2 : o = [] := List.eq_nil_of_length_eq_zero (by omega)
 have h0 : rK sp l i = [] := by rw [h, h2]
 have h1 : aN sp l i = [List.getD sp (kD (uA l i) (i : Int) * 2) 0, List.getD sp (kD (uA l i) (i : Int) * 2 + 1) 0] := if_pos h0
 refine ⟨by rw [h1, h2]; rfl, if_pos h0, ?_⟩
 unfold aG; rw [h1, List.length_cons, List.length_cons, List.length_nil]
theorem v4i {sp l o : List Int} {n k i : Nat} (h : rK sp l i = o) (hi : i = n) (hl : o.length = k * 2) (hk : 1 ≤ k) : aN sp l n = o ∧ yV sp l n = uA l i ∧ aG sp l n = k := by
 subst hi
 have h0 : ¬ rK sp l i = [] := fun e => by rw [h] at e; rw [e] at hl; have : (0 : Nat) = k * 2 := hl; omega
 have h1 : aN sp l i = o := by unfold aN; rw [if_neg h0, h]
 refine ⟨h1, if_neg h0, ?_⟩
 unfold aG; rw [h1, hl]; omega
theorem k0g (l : List Int) : List.length (yC l) ≤ 6 := by
 have h1 : ∀ l ∈ nE, List.length l ≤ 6 := by decide
 unfold yC
 rw [List.getD_eq_getElem?_getD]
 cases e : nE[kD l 7]? with
 | none => exact Nat.zero_le _
 | some x => exact h1 x (List.mem_of_getElem? e)
theorem u23 {l : List Int} (h : Byt l) : 1 ≤ List.length (yC l) ∧ List.length (yC l) ≤ 6 := by
 refine ⟨?_, k0g l⟩
 have h1 : ∀ x ∈ nE, 1 ≤ List.length x := by decide
 have h2 := q8 l 7 h
 have h3 : kD l 7 < nE.length := by show _ < 7; omega
 unfold yC
 rw [List.getD_eq_getElem?_getD, List.getElem?_eq_getElem h3]
 exact h1 _ (List.getElem_mem h3)
theorem aS {p : Prop} (h : p := by (simp only [qB, qA, qQ, List.length_append, List.length_cons, List.length_nil, List.length_take, List.length_drop, List.length_replicate, List.length_set, List.length_map, List.length_reverse, Nat.mul_one] <;> omega)) : p := h
theorem u9g   : Fun 73 [] (kF []) 0 (qC (kI nE) 7) (kF []) 0 := by
 refine Fun.mk (n := 9) Tryz.func73 rfl rfl (Nat.le_of_ble_eq_true rfl) ?_
 intro cx hcx
 refine kH [.no] True [] [] 0 trivial ?_
 refine kH [(.fz (.no)), (.fz (.no)), (.fz (.no)), (.fz (.no)), (.fz (.no)), (.fz (.no)), (.fz (.no)), .no, .no] ((([iD 3] : List D).length = 1 * 1) ∧ (([iD 1, iD 2] : List D).length = 2 * 1) ∧ (([iD 1, iD 2, iD 3, iD 4, iD 5, iD 6] : List D).length = 6 * 1) ∧ (([iD 2, iD 1] : List D).length = 2 * 1) ∧ (([iD 1, iD 2, iD 7, iD 8] : List D).length = 4 * 1) ∧ (([iD 4] : List D).length = 1 * 1) ∧ (([iD 1, iD 3] : List D).length = 2 * 1)) [(0, oV 7 0 7 1)] [(7, some (38, .ds [D.sl [iD 3] 1, D.sl [iD 1, iD 2] 2, D.sl [iD 1, iD 2, iD 3, iD 4, iD 5, iD 6] 6, D.sl [iD 2, iD 1] 2, D.sl [iD 1, iD 2, iD 7, iD 8] 4, D.sl [iD 4] 1, D.sl [iD 1, iD 3] 2]))] 8 ⟨aS, aS, aS, aS, aS, aS, aS⟩ ?_
 refine AW.freeze 7 (l' := [(0, qC [D.sl [iD 3] 1, D.sl [iD 1, iD 2] 2, D.sl [iD 1, iD 2, iD 3, iD 4, iD 5, iD 6] 6, D.sl [iD 2, iD 1] 2, D.sl [iD 1, iD 2, iD 7, iD 8] 4, D.sl [iD 4] 1, D.sl [iD 1, iD 3] 2] 7)]) (g' := []) rfl (FzS.cons rfl (.e (.c (@FzC.own 7 ([D.sl [iD 3] 1, D.sl [iD 1, iD 2] 2, D.sl [iD 1, iD 2, iD 3, iD 4, iD 5, iD 6] 6, D.sl [iD 2, iD 1] 2, D.sl [iD 1, iD 2, iD 7, iD 8] 4, D.sl [iD 4] 1, D.sl [iD 1, iD 3] 2] : List D) 0 (7 : Nat) 1 true ([D.sl [iD 3] 1, D.sl [iD 1, iD 2] 2, D.sl [iD 1, iD 2, iD 3, iD 4, iD 5, iD 6] 6, D.sl [iD 2, iD 1] 2, D.sl [iD 1, iD 2, iD 7, iD 8] 4, D.sl [iD 4] 1, D.sl [iD 1, iD 3] 2] : List D) (by rw [List.drop_zero, Nat.mul_one, List.take_of_length_le (by (simp only [qB, qA, qQ, List.length_append, List.length_cons, List.length_nil, List.length_take, List.length_drop, List.length_replicate, List.length_set, List.length_map, List.length_reverse, Nat.mul_one] <;> omega))]) aS))) FzS.nil) FzG.nil ?_
 refine AW.ret ?_
 exact kA (.inr rfl) [] (P := (((kI nE) : List D) = [D.sl [iD 3] 1, D.sl [iD 1, iD 2] 2, D.sl [iD 1, iD 2, iD 3, iD 4, iD 5, iD 6] 6, D.sl [iD 2, iD 1] 2, D.sl [iD 1, iD 2, iD 7, iD 8] 4, D.sl [iD 4] 1, D.sl [iD 1, iD 3] 2]) ∧ (kG 7)) zk ⟨(by rfl), rfl⟩
theorem v3v (l : List Int) (hb : Byt l) : Fun 43 [.c (.ptr 0 0)] (kF [(0, some (70, .ds [D.sl (dI .u8 l) (List.length l)]))]) 1 (sV .i64 (yC l) (List.length (yC l))) (kF [(0, some (70, .ds [D.sl (dI .u8 (kC l 7)) (List.length (kC l 7))]))]) 1 := by
 refine Fun.mk (n := 8) Tryz.func43 rfl rfl (Nat.le_of_ble_eq_true rfl) ?_
 intro cx hcx
 refine kH [.no] True [(0, rV 0 0)] [(0, some (70, .ds [db l (List.length l)]))] 1 trivial ?_
 have hx1 : ((((((kD l 7) : Nat) : Int) < 7) ∨ ((kD l 7) = 0)) ∧ ((kD l 7) ≤ 255)) := q8 l (7 : Int) (qD : Byt l)
 have hx2 : (Byt (kC l 7)) := qH (7 : Int) (qD : Byt l)
 have hx3 : ((List.length (List.getD nE (kD l 7) ([] : List Int))) ≤ 1000000) := MsW.at v1q _
 refine kH [.call [] (qC (kI nE) 7) [] 0 [] none, .no, .call [0] (uV (kD l 7)) [(0, some (70, .ds [db (kC l 7) (List.length (kC l 7))]))] 1 [] none, .n (kD l 7), .d (dl (List.getD nE (kD l 7) ([] : List Int)) (List.length (List.getD nE (kD l 7) ([] : List Int)))), .no] ((_) ∧ (_) ∧ (kM (kD l 7 : Int)) ∧ ((kD l 7) < 7) ∧ ((List.drop (kD l 7) (kI nE))[0]? = some (dl (List.getD nE (kD l 7) ([] : List Int)) (List.length (List.getD nE (kD l 7) ([] : List Int)))))) [(2, sV .i64 (List.getD nE (kD l 7) ([] : List Int)) (List.length (List.getD nE (kD l 7) ([] : List Int))))] [(0, some (70, .ds [db (kC l 7) (List.length (kC l 7))]))] 1 ⟨(u9g), (cQ l 7 (qD : Byt l)), rfl, zo, (bE _ _ (by show _ < 7; omega))⟩ ?_
 refine AW.ret ?_
 exact kA (.inr rfl) [] (P := (((dI .i64 (yC l)) : List D) = (dI .i64 (List.getD nE (kD l 7) ([] : List Int)))) ∧ (((List.length (yC l)) : Nat) = (List.length (List.getD nE (kD l 7) ([] : List Int)))) ∧ (kJ [db (kC l 7) (List.length (kC l 7))])) zk ⟨(by rfl), (by rfl), rfl⟩
abbrev c9 (l : List Int) (i : Nat) : BC := .ds [D.sl (dI .u8 (uA l i)) (List.length (uA l i))]
abbrev jK (l : List Int) (i : Nat) : BC := .ds [D.sl (dI .u8 (kC (uA l i) 2)) (List.length (kC (uA l i) 2))]
theorem u6q (sp : List Int) (n : Nat) (l : List Int) (hl : List.length sp = n * 2) (h1 : 1 ≤ n) (h2 : n ≤ 1000) (hb : Byt l) : Fun 58 [.c (.ptr 0 0), .c (.d (D.sl (dI .i64 sp) n))] (kF [(0, some (70, .ds [D.sl (dI .u8 l) (List.length l)]))]) 1 (.e (.agg [.d (D.sl (dI .i64 (d9 (aN sp l n) (aG sp l n))) (vI (aN sp l n) (aG sp l n)))])) (kF [(0, some (70, .ds [D.sl (dI .u8 (yV sp l n)) (List.length (yV sp l n))]))]) 1 := by
 refine Fun.mk (n := 43) Tryz.func58 rfl rfl (Nat.le_of_ble_eq_true rfl) ?_
 intro cx hcx
 refine kH [.no] True [(0, rV 0 0), (1, sV .i64 sp n), (4, rV 1 0)] [(0, some (70, .ds [db l (List.length l)])), (1, some (60, .ds [qI]))] 2 trivial ?_
 refine kS [.no] True [(0, rV 0 0), (1, sV .i64 sp n), (4, rV 1 0), (5, nV)] trivial ?_
 refine AW.seq ?_
 refine kS [.no, .no, .no] True [(0, rV 0 0), (1, sV .i64 sp n), (4, rV 1 0), (5, nV), (10, sV .i64 sp n), (11, uV n), (12, iV 0)] trivial ?_
 refine AW.block ?_
 refine AW.adoptS 5 2 95 rfl ?_
 refine k8 1 hcx (fun (x : {x : Nat × Nat × List Int // match x with | (i, k, o) => (i ≤ n ∧ k ≤ i) ∧ (rK sp l i = o) ∧ (List.length o = k * 2)}) => match x with | ⟨(i, k, o), _⟩ => (⟨[(0, rV 0 0), (1, sV .i64 sp n), (4, rV 1 0), (5, oV 3 0 k 2), (10, sV .i64 sp n), (11, uV n), (12, uV i)], [(0, some (70, (c9 l i))), (1, some (60, .ds [qI])), (3, some (95, .ds (dI .i64 o)))], 4⟩ : ES)) (fun x => match x with | ⟨(i, k, o), _⟩ => n - i) ⟨((0 : Nat), (0 : Nat), (([] : List Int) : List Int)), ⟨zo, rfl, rfl⟩⟩ [(3, 2)] (P := (kG 0) ∧ (kJ (dI .i64 sp)) ∧ (kG n) ∧ (kG 0) ∧ (kG 0) ∧ (kG 0) ∧ (kJ (dI .i64 sp)) ∧ (kG n) ∧ (kM (n : Int)) ∧ (kM 0) ∧ (([db (uA l 0) (List.length (uA l 0))] : List D) = [db l (List.length l)]) ∧ (kJ [qI]) ∧ (((dI .i64 ([] : List Int)) : List D) = ([] : List D))) zk ⟨rfl, rfl, rfl, rfl, rfl, rfl, rfl, rfl, rfl, rfl, (by rfl), rfl, (by rfl)⟩ ?_
 rintro ⟨⟨i, k, o⟩, hinv0⟩
 obtain ⟨hi, hS, ho⟩ : (i ≤ n ∧ k ≤ i) ∧ (rK sp l i = o) ∧ (List.length o = k * 2) := hinv0
 refine qW (l := [(0, rV 0 0), (1, sV .i64 sp n), (4, rV 1 0), (5, oV 3 0 k 2), (10, sV .i64 sp n), (11, uV n), (12, uV i)]) (g := [(0, some (70, (c9 l i))), (1, some (60, .ds [qI])), (3, some (95, .ds (dI .i64 o)))]) (nx := 4) rfl rfl rfl ?_
 by_cases hx1 : (((i : Nat) : Int) < ((n : Nat) : Int))
 ·refine kH [.b true] (((i : Int) < (n : Int))) [(0, rV 0 0), (1, sV .i64 sp n), (4, rV 1 0), (5, oV 3 0 k 2), (10, sV .i64 sp n), (11, uV n), (12, uV i), (13, bV true)] [(0, some (70, (c9 l i))), (1, some (60, .ds [qI])), (3, some (95, .ds (dI .i64 o)))] 4 zo ?_
  refine AW.seq ?_
  refine vL ?_
  refine AW.seq ?_
  refine AW.block ?_
  refine kH [.n i, .ds [iD (List.getD sp (i * 2) 0), iD (List.getD sp ((i * 2) + 1) 0)], .no, .no] ((kM (i : Int)) ∧ (i < n) ∧ (List.take 2 (List.drop (i * 2) (dI .i64 sp)) = [iD (List.getD sp (i * 2) 0), iD (List.getD sp ((i * 2) + 1) 0)]) ∧ (([iD (List.getD sp (i * 2) 0), iD (List.getD sp ((i * 2) + 1) 0)] : List D).length = 2)) [(0, rV 0 0), (1, sV .i64 sp n), (4, rV 1 0), (5, oV 3 0 k 2), (7, rV 4 0), (10, sV .i64 sp n), (11, uV n), (12, uV i)] [(0, some (70, (c9 l i))), (1, some (60, .ds [qI])), (3, some (95, .ds (dI .i64 o))), (4, some (95, .ds [iD (List.getD sp (i * 2) 0), iD (List.getD sp ((i * 2) + 1) 0)]))] 5 ⟨rfl, zo, (bP .i64 sp (i * 2) 2 zo), rfl⟩ ?_
  by_cases hx4 : ((((kD (uA l i) 2) : Nat) : Int) = 1)
  ·have hx5 : ((((((kD (uA l i) 2) : Nat) : Int) < 2) ∨ ((kD (uA l i) 2) = 0)) ∧ ((kD (uA l i) 2) ≤ 255)) := q8 (uA l i) (2 : Int) ((yU (qD : Byt l) _))
   have hx6 : (Byt (kC (uA l i) 2)) := qH (2 : Int) ((yU (qD : Byt l) _))
   refine kH [.no, .call [0] (uV (kD (uA l i) 2)) [(0, some (70, (jK l i)))] 1 [] none, .b true] ((_) ∧ (((kD (uA l i) 2 : Int) = 1))) [(0, rV 0 0), (1, sV .i64 sp n), (4, rV 1 0), (5, oV 3 0 k 2), (7, rV 4 0), (10, sV .i64 sp n), (11, uV n), (12, uV i), (18, bV true)] [(0, some (70, (jK l i))), (1, some (60, .ds [qI])), (3, some (95, .ds (dI .i64 o))), (4, some (95, .ds [iD (List.getD sp (i * 2) 0), iD (List.getD sp ((i * 2) + 1) 0)]))] 5 ⟨(cQ (uA l i) 2 (yU (qD : Byt l) _)), zo⟩ ?_
   refine zt ?_
   refine aC [.no, .no, .no, .ap none (k + 1) (dI .i64 (o ++ ([(List.getD sp (i * 2) 0), (List.getD sp ((i * 2) + 1) 0)] : List Int))), .no] (([iD (List.getD sp (i * 2) 0), iD (List.getD sp ((i * 2) + 1) 0)].length = 1 * 2) ∧ (((dI .i64 o) : List D).length = k * 2) ∧ ((k + 1) * 16 ≤ 140737488355328) ∧ (k + 1 = (k + 1)) ∧ (((dI .i64 o) : List D) ++ [iD (List.getD sp (i * 2) 0), iD (List.getD sp ((i * 2) + 1) 0)] = (dI .i64 (o ++ ([(List.getD sp (i * 2) 0), (List.getD sp ((i * 2) + 1) 0)] : List Int))))) [(0, rV 0 0), (1, sV .i64 sp n), (4, rV 1 0), (5, oV 6 0 (k + 1) 2), (10, sV .i64 sp n), (11, uV n), (12, uV i)] [(0, some (70, (jK l i))), (1, some (60, .ds [qI])), (6, some (95, .ds (dI .i64 (o ++ ([(List.getD sp (i * 2) 0), (List.getD sp ((i * 2) + 1) 0)] : List Int)))))] 7 ⟨aS, aS, zo, zo, (a8 .i64 o ([(List.getD sp (i * 2) 0), (List.getD sp ((i * 2) + 1) 0)] : List Int))⟩ ?_
   refine yA [.w, .no] (u3 ((i : Int) + 1)) [(0, rV 0 0), (1, sV .i64 sp n), (4, rV 1 0), (5, oV 6 0 (k + 1) 2), (10, sV .i64 sp n), (11, uV n), (12, iV (↑i + 1))] ⟨by omega, by omega⟩ ?_
   exact kW ⟨(((i + 1) : Nat), ((k + 1) : Nat), ((o ++ ([(List.getD sp (i * 2) 0), (List.getD sp ((i * 2) + 1) 0)] : List Int)) : List Int)), ⟨zo, (by exact v4c hS zo), (by (simp only [qB, qA, List.length_append, List.length_cons, List.length_nil] <;> omega))⟩⟩ [(3, 6)] (P := (kG 0) ∧ (kJ (dI .i64 sp)) ∧ (kG n) ∧ (kG 0) ∧ (kG 0) ∧ (kG (k + 1)) ∧ (kJ (dI .i64 sp)) ∧ (kG n) ∧ (kM (n : Int)) ∧ (bU i) ∧ (([db (uA l (i + 1)) (List.length (uA l (i + 1)))] : List D) = [db (kC (uA l i) 2) (List.length (kC (uA l i) 2))]) ∧ (kJ [qI]) ∧ (kJ (dI .i64 (o ++ ([(List.getD sp (i * 2) 0), (List.getD sp ((i * 2) + 1) 0)] : List Int))))) zk ⟨rfl, rfl, rfl, rfl, rfl, rfl, rfl, rfl, rfl, (by rfl), (by rfl), rfl, rfl⟩ (show n - (i + 1) < n - i from zo)
  ·have hx7 : ((((((kD (uA l i) 2) : Nat) : Int) < 2) ∨ ((kD (uA l i) 2) = 0)) ∧ ((kD (uA l i) 2) ≤ 255)) := q8 (uA l i) (2 : Int) ((yU (qD : Byt l) _))
   have hx8 : (Byt (kC (uA l i) 2)) := qH (2 : Int) ((yU (qD : Byt l) _))
   refine kH [.no, .call [0] (uV (kD (uA l i) 2)) [(0, some (70, (jK l i)))] 1 [] none, .b false] ((_) ∧ (¬ ((kD (uA l i) 2 : Int) = 1))) [(0, rV 0 0), (1, sV .i64 sp n), (4, rV 1 0), (5, oV 3 0 k 2), (7, rV 4 0), (10, sV .i64 sp n), (11, uV n), (12, uV i), (18, bV false)] [(0, some (70, (jK l i))), (1, some (60, .ds [qI])), (3, some (95, .ds (dI .i64 o))), (4, some (95, .ds [iD (List.getD sp (i * 2) 0), iD (List.getD sp ((i * 2) + 1) 0)]))] 5 ⟨(cQ (uA l i) 2 (yU (qD : Byt l) _)), zo⟩ ?_
   refine uO ?_
   refine aC [.w, .no] (u3 ((i : Int) + 1)) [(0, rV 0 0), (1, sV .i64 sp n), (4, rV 1 0), (5, oV 3 0 k 2), (10, sV .i64 sp n), (11, uV n), (12, iV (↑i + 1))] [(0, some (70, (jK l i))), (1, some (60, .ds [qI])), (3, some (95, .ds (dI .i64 o)))] 5 ⟨by omega, by omega⟩ ?_
   exact kW ⟨(((i + 1) : Nat), (k : Nat), (o : List Int)), ⟨zo, (by exact v4d hS zo), (by assumption)⟩⟩ [] (P := (kG 0) ∧ (kJ (dI .i64 sp)) ∧ (kG n) ∧ (kG 0) ∧ (kG 0) ∧ (kG k) ∧ (kJ (dI .i64 sp)) ∧ (kG n) ∧ (kM (n : Int)) ∧ (bU i) ∧ (([db (uA l (i + 1)) (List.length (uA l (i + 1)))] : List D) = [db (kC (uA l i) 2) (List.length (kC (uA l i) 2))]) ∧ (kJ [qI]) ∧ (kJ (dI .i64 o))) zk ⟨rfl, rfl, rfl, rfl, rfl, rfl, rfl, rfl, rfl, (by rfl), (by rfl), rfl, rfl⟩ (show n - (i + 1) < n - i from zo)
 ·refine kH [.b false] (¬ ((i : Int) < (n : Int))) [(0, rV 0 0), (1, sV .i64 sp n), (4, rV 1 0), (5, oV 3 0 k 2), (10, sV .i64 sp n), (11, uV n), (12, uV i), (13, bV false)] [(0, some (70, (c9 l i))), (1, some (60, .ds [qI])), (3, some (95, .ds (dI .i64 o)))] 4 zo ?_
  refine AW.seq ?_
  refine zf ?_
  refine AW.exit ?_
  refine AW.seq ?_
  by_cases hx9 : (((k : Nat) : Int) = 0)
  ·refine kH [.no, .no, .b true] (((k : Int) = 0)) [(0, rV 0 0), (1, sV .i64 sp n), (4, rV 1 0), (5, oV 3 0 k 2), (26, bV true)] [(0, some (70, (c9 l i))), (1, some (60, .ds [qI])), (3, some (95, .ds (dI .i64 o)))] 4 zo ?_
   refine zt ?_
   have hx10 : ((((((kD (uA l i) ((n : Nat) : Int)) : Nat) : Int) < ((n : Nat) : Int)) ∨ ((kD (uA l i) ((n : Nat) : Int)) = 0)) ∧ ((kD (uA l i) ((n : Nat) : Int)) ≤ 255)) := q8 (uA l i) ((n : Nat) : Int) ((yU (qD : Byt l) _))
   have hx11 : (Byt (kC (uA l i) ((n : Nat) : Int))) := qH ((n : Nat) : Int) ((yU (qD : Byt l) _))
   refine aC (qE 5 [.call [0] (uV (kD (uA l i) (n : Int))) [(0, some (70, .ds [db (kC (uA l i) (n : Int)) (List.length (kC (uA l i) (n : Int)))]))] 1 [] none, .n (kD (uA l i) (n : Int)), .ds [iD (List.getD sp ((kD (uA l i) (n : Int)) * 2) 0), iD (List.getD sp (((kD (uA l i) (n : Int)) * 2) + 1) 0)], .no, .ap none (k + 1) (dI .i64 (o ++ ([(List.getD sp ((kD (uA l i) (n : Int)) * 2) 0), (List.getD sp (((kD (uA l i) (n : Int)) * 2) + 1) 0)] : List Int))), .no]) ((_) ∧ (kM (((kD (uA l i) (n : Int)) : Nat) : Int)) ∧ ((kD (uA l i) (n : Int)) < n) ∧ (List.take 2 (List.drop ((kD (uA l i) (n : Int)) * 2) (dI .i64 sp)) = [iD (List.getD sp ((kD (uA l i) (n : Int)) * 2) 0), iD (List.getD sp (((kD (uA l i) (n : Int)) * 2) + 1) 0)]) ∧ (([iD (List.getD sp ((kD (uA l i) (n : Int)) * 2) 0), iD (List.getD sp (((kD (uA l i) (n : Int)) * 2) + 1) 0)] : List D).length = 2) ∧ ([iD (List.getD sp ((kD (uA l i) (n : Int)) * 2) 0), iD (List.getD sp (((kD (uA l i) (n : Int)) * 2) + 1) 0)].length = 1 * 2) ∧ (((dI .i64 o) : List D).length = k * 2) ∧ ((k + 1) * 16 ≤ 140737488355328) ∧ (k + 1 = (k + 1)) ∧ (((dI .i64 o) : List D) ++ [iD (List.getD sp ((kD (uA l i) (n : Int)) * 2) 0), iD (List.getD sp (((kD (uA l i) (n : Int)) * 2) + 1) 0)] = (dI .i64 (o ++ ([(List.getD sp ((kD (uA l i) (n : Int)) * 2) 0), (List.getD sp (((kD (uA l i) (n : Int)) * 2) + 1) 0)] : List Int))))) [(4, rV 1 0), (5, oV 5 0 (k + 1) 2)] [(0, some (70, .ds [db (kC (uA l i) ↑n) (List.length (kC (uA l i) ↑n))])), (1, some (60, .ds [qI])), (5, some (95, .ds (dI .i64 (o ++ ([(List.getD sp ((kD (uA l i) ↑n) * 2) 0), (List.getD sp (((kD (uA l i) ↑n) * 2) + 1) 0)] : List Int)))))] 6 ⟨(cQ (uA l i) (n : Int) (yU (qD : Byt l) _)), rfl, zo, (bP .i64 sp ((kD (uA l i) (n : Int)) * 2) 2 zo), rfl, aS, aS, zo, zo, (a8 .i64 o ([(List.getD sp ((kD (uA l i) (n : Int)) * 2) 0), (List.getD sp (((kD (uA l i) (n : Int)) * 2) + 1) 0)] : List Int))⟩ ?_
   refine AW.freeze 5 (l' := [(4, rV 1 0), (5, sV .i64 (o ++ ([(List.getD sp ((kD (uA l i) (n : Int)) * 2) 0), (List.getD sp (((kD (uA l i) (n : Int)) * 2) + 1) 0)] : List Int)) (k + 1))]) (g' := [(0, some (70, .ds [db (kC (uA l i) (n : Int)) (List.length (kC (uA l i) (n : Int)))])), (1, some (60, .ds [qI]))]) rfl (FzS.cons rfl (.same _) (FzS.cons rfl (.e (.c (@FzC.own 5 ((dI .i64 (o ++ ([(List.getD sp ((kD (uA l i) (n : Int)) * 2) 0), (List.getD sp (((kD (uA l i) (n : Int)) * 2) + 1) 0)] : List Int))) : List D) 0 (k + 1) 2 true ((dI .i64 (o ++ ([(List.getD sp ((kD (uA l i) (n : Int)) * 2) 0), (List.getD sp (((kD (uA l i) (n : Int)) * 2) + 1) 0)] : List Int))) : List D) (by rw [List.drop_zero, List.take_of_length_le (by (simp only [qB, qA, qQ, List.length_append, List.length_cons, List.length_nil, List.length_take, List.length_drop, List.length_replicate, List.length_set, List.length_map, List.length_reverse, Nat.mul_one] <;> omega))]) aS))) FzS.nil)) (uI rfl rfl (uI rfl rfl FzG.nil)) ?_
   have hx12 : ((List.length (d9 (o ++ ([(List.getD sp ((kD (uA l i) ((n : Nat) : Int)) * 2) 0), (List.getD sp (((kD (uA l i) ((n : Nat) : Int)) * 2) + 1) 0)] : List Int)) (k + 1))) = ((vI (o ++ ([(List.getD sp ((kD (uA l i) ((n : Nat) : Int)) * 2) 0), (List.getD sp (((kD (uA l i) ((n : Nat) : Int)) * 2) + 1) 0)] : List Int)) (k + 1)) * 2)) := iJ (o ++ ([(List.getD sp ((kD (uA l i) ((n : Nat) : Int)) * 2) 0), (List.getD sp (((kD (uA l i) ((n : Nat) : Int)) * 2) + 1) 0)] : List Int)) (k + 1)
   have hx13 : ((((0 : Int) ≤ (oF (o ++ ([(List.getD sp ((kD (uA l i) ((n : Nat) : Int)) * 2) 0), (List.getD sp (((kD (uA l i) ((n : Nat) : Int)) * 2) + 1) 0)] : List Int)) (k + 1))) ∧ ((oF (o ++ ([(List.getD sp ((kD (uA l i) ((n : Nat) : Int)) * 2) 0), (List.getD sp (((kD (uA l i) ((n : Nat) : Int)) * 2) + 1) 0)] : List Int)) (k + 1)) ≤ 3)) ∧ ((vI (o ++ ([(List.getD sp ((kD (uA l i) ((n : Nat) : Int)) * 2) 0), (List.getD sp (((kD (uA l i) ((n : Nat) : Int)) * 2) + 1) 0)] : List Int)) (k + 1)) ≤ 64)) := nF (o ++ ([(List.getD sp ((kD (uA l i) ((n : Nat) : Int)) * 2) 0), (List.getD sp (((kD (uA l i) ((n : Nat) : Int)) * 2) + 1) 0)] : List Int)) (k + 1)
   refine kH (.no :: .call [] (.tup [.agg [.d (dl (d9 (o ++ ([(List.getD sp ((kD (uA l i) (n : Int)) * 2) 0), (List.getD sp (((kD (uA l i) (n : Int)) * 2) + 1) 0)] : List Int)) (k + 1)) (vI (o ++ ([(List.getD sp ((kD (uA l i) (n : Int)) * 2) 0), (List.getD sp (((kD (uA l i) (n : Int)) * 2) + 1) 0)] : List Int)) (k + 1)))], iE (oF (o ++ ([(List.getD sp ((kD (uA l i) (n : Int)) * 2) 0), (List.getD sp (((kD (uA l i) (n : Int)) * 2) + 1) 0)] : List Int)) (k + 1))]) [] 0 [] none :: qE 6 []) _ [(4, rV 1 0), (8, rV 6 0)] [(0, some (70, .ds [db (kC (uA l i) ↑n) (List.length (kC (uA l i) ↑n))])), (1, some (60, .ds [qI])), (6, some (60, .ds [dl (d9 (o ++ ([(List.getD sp ((kD (uA l i) ↑n) * 2) 0), (List.getD sp (((kD (uA l i) ↑n) * 2) + 1) 0)] : List Int)) (k + 1)) (vI (o ++ ([(List.getD sp ((kD (uA l i) ↑n) * 2) 0), (List.getD sp (((kD (uA l i) ↑n) * 2) + 1) 0)] : List Int)) (k + 1))]))] 7 (k3a (o ++ ([(List.getD sp ((kD (uA l i) (n : Int)) * 2) 0), (List.getD sp (((kD (uA l i) (n : Int)) * 2) + 1) 0)] : List Int)) (k + 1) (by (simp only [qB, qA, List.length_append, List.length_cons, List.length_nil, List.length_take, List.length_drop, List.length_replicate, List.length_set] <;> omega)) zo) ?_
   refine kH [.no, .no] True [(4, rV 1 0)] [(0, some (70, .ds [db (kC (uA l i) ↑n) (List.length (kC (uA l i) ↑n))])), (1, some (60, .ds [dl (d9 (o ++ ([(List.getD sp ((kD (uA l i) ↑n) * 2) 0), (List.getD sp (((kD (uA l i) ↑n) * 2) + 1) 0)] : List Int)) (k + 1)) (vI (o ++ ([(List.getD sp ((kD (uA l i) ↑n) * 2) 0), (List.getD sp (((kD (uA l i) ↑n) * 2) + 1) 0)] : List Int)) (k + 1))]))] 7 trivial ?_
   obtain ⟨hz1, hz2, hz3⟩ := v4j hS (show i = n by omega) ho zo
   refine AW.ret ?_
   exact kA (.inr rfl) [] (P := (((dI .i64 (d9 (aN sp l n) (aG sp l n))) : List D) = (dI .i64 (d9 (o ++ ([(List.getD sp ((kD (uA l i) (n : Int)) * 2) 0), (List.getD sp (((kD (uA l i) (n : Int)) * 2) + 1) 0)] : List Int)) (k + 1)))) ∧ (((vI (aN sp l n) (aG sp l n)) : Nat) = (vI (o ++ ([(List.getD sp ((kD (uA l i) (n : Int)) * 2) 0), (List.getD sp (((kD (uA l i) (n : Int)) * 2) + 1) 0)] : List Int)) (k + 1))) ∧ (([db (yV sp l n) (List.length (yV sp l n))] : List D) = [db (kC (uA l i) (n : Int)) (List.length (kC (uA l i) (n : Int)))])) zk ⟨(by (rw [hz1, hz3]; done)), (by (rw [hz1, hz3]; done)), (by (rw [hz2]; done))⟩
  ·refine kH [.no, .no, .b false] (¬ ((k : Int) = 0)) [(0, rV 0 0), (1, sV .i64 sp n), (4, rV 1 0), (5, oV 3 0 k 2), (26, bV false)] [(0, some (70, (c9 l i))), (1, some (60, .ds [qI])), (3, some (95, .ds (dI .i64 o)))] 4 zo ?_
   refine uO ?_
   refine AW.freeze 3 (l' := [(0, rV 0 0), (1, sV .i64 sp n), (4, rV 1 0), (5, sV .i64 o k), (26, bV false)]) (g' := [(0, some (70, (c9 l i))), (1, some (60, .ds [qI]))]) rfl (FzS.cons rfl (.same _) (FzS.cons rfl (.same _) (FzS.cons rfl (.same _) (FzS.cons rfl (.e (.c (@FzC.own 3 ((dI .i64 o) : List D) 0 k 2 true ((dI .i64 o) : List D) (by rw [List.drop_zero, List.take_of_length_le (by (simp only [qB, qA, qQ, List.length_append, List.length_cons, List.length_nil, List.length_take, List.length_drop, List.length_replicate, List.length_set, List.length_map, List.length_reverse, Nat.mul_one] <;> omega))]) aS))) (FzS.cons rfl (.same _) FzS.nil))))) (uI rfl rfl (uI rfl rfl FzG.nil)) ?_
   have hx14 : ((List.length (d9 o k)) = ((vI o k) * 2)) := iJ o k
   have hx15 : ((((0 : Int) ≤ (oF o k)) ∧ ((oF o k) ≤ 3)) ∧ ((vI o k) ≤ 64)) := nF o k
   refine kH (.no :: .call [] (.tup [.agg [.d (dl (d9 o k) (vI o k))], iE (oF o k)]) [] 0 [] none :: qE 6 []) _ [(4, rV 1 0), (8, rV 4 0)] [(0, some (70, (c9 l i))), (1, some (60, .ds [qI])), (4, some (60, .ds [dl (d9 o k) (vI o k)]))] 5 (k3a o k zo zo) ?_
   refine kH [.no, .no] True [(4, rV 1 0)] [(0, some (70, (c9 l i))), (1, some (60, .ds [dl (d9 o k) (vI o k)]))] 5 trivial ?_
   obtain ⟨hz1, hz2, hz3⟩ := v4i hS (show i = n by omega) ho zo
   refine AW.ret ?_
   exact kA (.inr rfl) [] (P := (((dI .i64 (d9 (aN sp l n) (aG sp l n))) : List D) = (dI .i64 (d9 o k))) ∧ (((vI (aN sp l n) (aG sp l n)) : Nat) = (vI o k)) ∧ (([db (yV sp l n) (List.length (yV sp l n))] : List D) = [db (uA l i) (List.length (uA l i))])) zk ⟨(by (rw [hz1, hz3]; done)), (by (rw [hz1, hz3]; done)), (by (rw [hz2]; done))⟩
end Go.Proofs.YtbicifcgghmhaaaGreat
