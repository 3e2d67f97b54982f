/- Merged texts. -/
import Derived.Test.YtdbjebdomdnbkaaGreatZLBy
import Derived.Test.YtdbjebdomdnbkaaGreatZL10D
namespace Go.Proofs.YtdbjebdomdnbkaaGreat
open Go.ChangeShapes Go.WideShapes Go.ChangeAt Go.RowKit
set_option linter.unusedVariables false
set_option linter.unusedSimpArgs false
set_option maxHeartbeats 4000000
set_option maxRecDepth 100000
def kC (l : List Int) (n : Int) : Nat := if l.length = 0 ∨ n ≤ 1 then 0 else (List.getD l 0 0 % n).toNat
def kA (l : List Int) (n : Int) : List Int := if l.length = 0 ∨ n ≤ 1 then l else List.drop 1 l
theorem eC {l : List Int} {n : Int} (h : l.length = 0 ∨ n ≤ 1) : ((kC l n : Nat) : Int) = 0 := by unfold kC; rw [if_pos h]; rfl
theorem m9 {l : List Int} {n : Int} (h : l.length = 0 ∨ n ≤ 1) : kA l n = l := if_pos h
theorem sR {l : List Int} {n : Int} (hb : Byt l) (h : ¬ (l.length = 0 ∨ n ≤ 1)) : ((kC l n : Nat) : Int) = List.getD l 0 0 % n := by
  unfold kC; rw [if_neg h]; exact Int.toNat_of_nonneg (Int.emod_nonneg _ (by omega))
theorem k3g {l : List Int} {n : Int} (h : ¬ (l.length = 0 ∨ n ≤ 1)) : kA l n = List.drop 1 l := if_neg h
theorem kH {l : List Int} (n : Int) (h : Byt l) : Byt (kA l n) := by
  unfold kA; split
  · exact h
  · exact h.drop 1
theorem kZ (l : List Int) (n : Int) (h : Byt l) : (((kC l n : Nat) : Int) < n ∨ kC l n = 0) ∧ kC l n ≤ 255 := by
  by_cases hn : l.length = 0 ∨ n ≤ 1
  · have := eC hn; omega
  · have e0 := sR h hn
    have h0 := Byt.at h 0 (by omega)
    have e3 := Int.emod_lt_of_pos (List.getD l 0 0) (b := n) (by omega)
    have e1 := Int.mul_ediv_add_emod (List.getD l 0 0) n
    have e2 : 0 ≤ n * (List.getD l 0 0 / n) := Int.mul_nonneg (by omega) (Int.ediv_nonneg h0.1 (by omega))
    omega
@[reducible] def cB (n : Nat) (s : List Int) : List Int := (List.take (min n 300) s)
theorem u1d (l : List Int) (n : Nat) (hn : List.length l = n) (hb : n ≤ 9223372036854775807) : Fun 12 [.c (.d (D.sl (dI .u8 l) n))] (kD []) 0 (rV 0 0) (kD [(0, some (78, .ds [D.sl (dI .u8 (cB n l)) (List.length (cB n l))]))]) 1 := by
  refine Fun.mk (n := 10) Tryz.func12 rfl rfl (Nat.le_of_ble_eq_true rfl) ?_
  intro cx hcx
  refine kG [.no] True [(0, sV .u8 l n)] [] 0 trivial ?_
  refine kG (kJ 4 [.sls 0 (min n 300) (min n 300) (dI .u8 (cB n l)), .no, .no, .no]) ((kQ 0) ∧ (((min (n : Int) 300) : Int) = (((min n 300) : Nat) : Int)) ∧ ((0 : Nat) ≤ (min n 300)) ∧ ((min n 300) ≤ n) ∧ ((min n 300) - 0 = (min n 300)) ∧ (List.take ((min n 300) * 1) (List.drop (0 * 1) (dI .u8 l)) = (dI .u8 (cB n l)))) [(2, rV 0 0)] [(0, some (78, .ds [db (cB n l) (min n 300)]))] 1 ⟨rfl, zo, zo, zo, zo, (by (simp only [c9, bY, uK, Nat.mul_one, Nat.zero_mul, List.drop_zero, List.nil_append, List.append_nil]; done))⟩ ?_
  refine AW.ret ?_
  exact kB (.inr rfl) [] (P := (kQ 0) ∧ (([db (cB n l) (List.length (cB n l))] : List D) = [db (cB n l) (min n 300)])) zk ⟨rfl, (by have e9 : (cB n l).length = min n 300 := (by rw [List.length_take]; omega); rw [e9])⟩
theorem uL (l : List Int) (n : Int) (hb : Byt l) : Fun 22 [.c (.ptr 0 0), iE n] (kD [(0, some (78, .ds [D.sl (dI .u8 l) (List.length l)]))]) 1 (iV (((kC l n) : Nat) : Int)) (kD [(0, some (78, .ds [D.sl (dI .u8 (kA l n)) (List.length (kA l n))]))]) 1 := by
  refine Fun.mk (n := 34) Tryz.func22 rfl rfl (Nat.le_of_ble_eq_true rfl) ?_
  intro cx hcx
  refine kG [.no] True [(0, rV 0 0), (1, iV n)] [(0, some (78, .ds [db l (List.length l)]))] 1 trivial ?_
  refine AW.seq ?_
  by_cases hx1 : ((((List.length l) : Nat) : Int) = 0)
  · refine zr (kJ 5 [.b true, .no, .no]) [0, 1, 15] [0] (((List.length l : Int) = 0)) [(0, rV 0 0), (1, iV n), (15, bV true)] [(0, some (78, .ds [db l (List.length l)]))] 1 zo ?_
    refine zt ?_
    refine kG [.no] True [(4, iV 0)] [(0, some (78, .ds [db l (List.length l)]))] 1 trivial ?_
    refine AW.ret ?_
    exact kB (.inr rfl) [] (P := (((kC l n : Int) : Int) = 0) ∧ (([db (kA l n) (List.length (kA l n))] : List D) = [db l (List.length l)])) zk ⟨(by exact eC zo), (by rw [m9 (by omega)])⟩
  · by_cases hx2 : (n ≤ 1)
    · refine zr (kJ 5 [.b false, .no, .no, .b true, .no]) [0, 1, 15] [0] ((¬ ((List.length l : Int) = 0)) ∧ ((n ≤ 1))) [(0, rV 0 0), (1, iV n), (15, bV true)] [(0, some (78, .ds [db l (List.length l)]))] 1 ⟨zo, zo⟩ ?_
      refine zt ?_
      refine kG [.no] True [(4, iV 0)] [(0, some (78, .ds [db l (List.length l)]))] 1 trivial ?_
      refine AW.ret ?_
      exact kB (.inr rfl) [] (P := (((kC l n : Int) : Int) = 0) ∧ (([db (kA l n) (List.length (kA l n))] : List D) = [db l (List.length l)])) zk ⟨(by exact eC zo), (by rw [m9 (by omega)])⟩
    · refine zr (kJ 5 [.b false, .no, .no, .b false, .no]) [0, 1, 15] [0] ((¬ ((List.length l : Int) = 0)) ∧ (¬ (n ≤ 1))) [(0, rV 0 0), (1, iV n), (15, bV false)] [(0, some (78, .ds [db l (List.length l)]))] 1 ⟨zo, zo⟩ ?_
      refine uM ?_
      have hx3 : 0 ≤ (List.getD l 0 0) ∧ (List.getD l 0 0) ≤ 255 := hb.at 0 zo
      refine kG (kJ 4 [.n 0, .d (D.lit (.int .u8 (List.getD l 0 0))), .w, .no]) ((kM 0) ∧ ((0 : Nat) < (List.length l)) ∧ ((List.drop 0 (dI .u8 l))[0]? = some (D.lit (.int .u8 (List.getD l 0 0)))) ∧ (qB (List.getD l 0 0))) [(0, rV 0 0), (1, iV n), (5, iV (List.getD l 0 0))] [(0, some (78, .ds [db l (List.length l)]))] 1 ⟨rfl, zo, (qN _ _ _ zo), ⟨by omega, by omega⟩⟩ ?_
      refine kG (kJ 5 [.sls 1 (List.length l) ((List.length l) - 1) (dI .u8 (List.drop 1 l)), .no, .no, .no]) ((kM 1) ∧ ((List.length l) = (List.length l)) ∧ ((1 : Nat) ≤ (List.length l)) ∧ ((List.length l) ≤ (List.length l)) ∧ ((List.length l) - 1 = ((List.length l) - 1)) ∧ (List.take (((List.length l) - 1) * 1) (List.drop (1 * 1) (dI .u8 l)) = (dI .u8 (List.drop 1 l)))) [(1, iV n), (5, iV (List.getD l 0 0))] [(0, some (78, .ds [db (List.drop 1 l) ((List.length l) - 1)]))] 1 ⟨rfl, rfl, zo, zo, zo, (by (rw [List.take_of_length_le (by simp only [aX, uF, List.length_drop, List.length_replicate, Nat.mul_one] <;> omega)]; (simp only [bY, Nat.mul_one, Nat.zero_mul, List.drop_zero]; done)))⟩ ?_
      refine kV [.no, .no, .ps, .no] (((0 : Int) ≤ ((List.getD l 0 0) : Int)) ∧ ((0 : Int) < (n : Int))) [(4, iV ((List.getD l 0 0) % n))] ⟨zo, zo⟩ ?_
      refine AW.ret ?_
      exact kB (.inr rfl) [] (P := (((kC l n : Int) : Int) = ((List.getD l 0 0) % n)) ∧ (([db (kA l n) (List.length (kA l n))] : List D) = [db (List.drop 1 l) ((List.length l) - 1)])) zk ⟨(by exact sR hb zo), (by rw [k3g (by omega), List.length_drop])⟩
end Go.Proofs.YtdbjebdomdnbkaaGreat
namespace Go.Proofs.YtdbjebdomdnbkaaGreat
open Go.ChangeShapes Go.WideShapes Go.ChangeAt Go.RowKit
set_option linter.unusedVariables false
set_option linter.unusedSimpArgs false
/-! chapter 10: boxes out of dice -/
set_option maxHeartbeats 4000000
set_option maxRecDepth 100000
def lB : List (List Int) := [[3], [1, 2], [1, 2, 3, 4, 5, 6], [2, 1], [1, 2, 7, 8], [4], [1, 3]]
theorem u62 : MsW lB := fun l h => by
 have h1 : ∀ l ∈ lB, List.length l ≤ 6 := by decide
 have := h1 l h; omega
def uY (l : List Int) : List Int := List.getD lB (kC l 7) []
def uB (l : List Int) : Nat → List Int
 | 0 => l
 | i + 1 => kA (uB l i) 2
def oM (sp l : List Int) : Nat → List Int
 | 0 => []
 | i + 1 => if kC (uB l i) 2 = 1 then oM sp l i ++ [List.getD sp (i * 2) 0, List.getD sp (i * 2 + 1) 0] else oM sp l i
theorem yY {l : List Int} (h : Byt l) : ∀ i, Byt (uB l i)
 | 0 => h
 | i + 1 => kH _ (yY h i)
theorem u82 {sp l : List Int} {i : Nat} {o : List Int} (h : oM sp l i = o) (h1 : kC (uB l i) 2 = 1) : oM sp l (i + 1) = o ++ [List.getD sp (i * 2) 0, List.getD sp (i * 2 + 1) 0] := by
 subst h; exact if_pos h1
theorem u83 {sp l : List Int} {i : Nat} {o : List Int} (h : oM sp l i = o) (h1 : ¬ kC (uB l i) 2 = 1) : oM sp l (i + 1) = o := by
 subst h; exact if_neg h1
def vX (sp l : List Int) (n : Nat) : List Int := if oM sp l n = [] then [List.getD sp (kC (uB l n) (n : Int) * 2) 0, List.getD sp (kC (uB l n) (n : Int) * 2 + 1) 0] else oM sp l n
def yI (sp l : List Int) (n : Nat) : List Int := if oM sp l n = [] then kA (uB l n) (n : Int) else uB l n
def vT (sp l : List Int) (n : Nat) : Nat := (vX sp l n).length / 2
theorem v8 {sp l : List Int} {n : Nat} (h : Byt l) : Byt (yI sp l n) := by unfold yI; split; exact kH _ (yY h n); exact yY h n
theorem u85 {sp l o : List Int} {n k i : Nat} (h : oM sp l i = o) (hi : i = n) (hl : o.length = k * 2) (hk : k = 0) : vX sp l n = o ++ [List.getD sp (kC (uB l i) (n : Int) * 2) 0, List.getD sp (kC (uB l i) (n : Int) * 2 + 1) 0] ∧ yI sp l n = kA (uB l i) (n : Int) ∧ vT sp l n = k + 1 := by
 subst hi; subst hk
 have h2 : o = [] := List.eq_nil_of_length_eq_zero (by omega)
 have h0 : oM sp l i = [] := by rw [h, h2]
 have h1 : vX sp l i = [List.getD sp (kC (uB l i) (i : Int) * 2) 0, List.getD sp (kC (uB l i) (i : Int) * 2 + 1) 0] := if_pos h0
 refine ⟨by rw [h1, h2]; rfl, if_pos h0, ?_⟩
 unfold vT; rw [h1, List.length_cons, List.length_cons, List.length_nil]
theorem u84 {sp l o : List Int} {n k i : Nat} (h : oM sp l i = o) (hi : i = n) (hl : o.length = k * 2) (hk : 1 ≤ k) : vX sp l n = o ∧ yI sp l n = uB l i ∧ vT sp l n = k := by
 subst hi
 have h0 : ¬ oM sp l i = [] := fun e => by rw [h] at e; rw [e] at hl; have : (0 : Nat) = k * 2 := hl; omega
 have h1 : vX sp l i = o := by unfold vX; rw [if_neg h0, h]
 refine ⟨h1, if_neg h0, ?_⟩
 unfold vT; rw [h1, hl]; omega
theorem xF (l : List Int) : List.length (uY l) ≤ 6 := by
 have h1 : ∀ l ∈ lB, List.length l ≤ 6 := by decide
 unfold uY
 rw [List.getD_eq_getElem?_getD]
 cases e : lB[kC l 7]? with
 | none => exact Nat.zero_le _
 | some x => exact h1 x (List.mem_of_getElem? e)
theorem k7z {l : List Int} (h : Byt l) : 1 ≤ List.length (uY l) ∧ List.length (uY l) ≤ 6 := by
 refine ⟨?_, xF l⟩
 have h1 : ∀ x ∈ lB, 1 ≤ List.length x := by decide
 have h2 := kZ l 7 h
 have h3 : kC l 7 < lB.length := by show _ < 7; omega
 unfold uY
 rw [List.getD_eq_getElem?_getD, List.getElem?_eq_getElem h3]
 exact h1 _ (List.getElem_mem h3)
theorem vY {p : Prop} (h : p := by (simp only [qA, k8, uF, List.length_append, List.length_cons, List.length_nil, List.length_take, List.length_drop, List.length_replicate, List.length_set, List.length_map, List.length_reverse, Nat.mul_one] <;> omega)) : p := h
theorem u3u   : Fun 93 [] (kD []) 0 (qX (kW lB) 7) (kD []) 0 := by
 refine Fun.mk (n := 9) Tryz.func93 rfl rfl (Nat.le_of_ble_eq_true rfl) ?_
 intro cx hcx
 refine kG [.no] True [] [] 0 trivial ?_
 refine kG [(.fz (.no)), (.fz (.no)), (.fz (.no)), (.fz (.no)), (.fz (.no)), (.fz (.no)), (.fz (.no)), .no, .no] ((([iD 3] : List D).length = 1 * 1) ∧ (([iD 1, iD 2] : List D).length = 2 * 1) ∧ (([iD 1, iD 2, iD 3, iD 4, iD 5, iD 6] : List D).length = 6 * 1) ∧ (([iD 2, iD 1] : List D).length = 2 * 1) ∧ (([iD 1, iD 2, iD 7, iD 8] : List D).length = 4 * 1) ∧ (([iD 4] : List D).length = 1 * 1) ∧ (([iD 1, iD 3] : List D).length = 2 * 1)) [(0, oV 7 0 7 1)] [(7, some (55, .ds [D.sl [iD 3] 1, D.sl [iD 1, iD 2] 2, D.sl [iD 1, iD 2, iD 3, iD 4, iD 5, iD 6] 6, D.sl [iD 2, iD 1] 2, D.sl [iD 1, iD 2, iD 7, iD 8] 4, D.sl [iD 4] 1, D.sl [iD 1, iD 3] 2]))] 8 ⟨vY, vY, vY, vY, vY, vY, vY⟩ ?_
 refine AW.freeze 7 (l' := [(0, qX [D.sl [iD 3] 1, D.sl [iD 1, iD 2] 2, D.sl [iD 1, iD 2, iD 3, iD 4, iD 5, iD 6] 6, D.sl [iD 2, iD 1] 2, D.sl [iD 1, iD 2, iD 7, iD 8] 4, D.sl [iD 4] 1, D.sl [iD 1, iD 3] 2] 7)]) (g' := []) rfl (FzS.cons rfl (.e (.c (@FzC.own 7 ([D.sl [iD 3] 1, D.sl [iD 1, iD 2] 2, D.sl [iD 1, iD 2, iD 3, iD 4, iD 5, iD 6] 6, D.sl [iD 2, iD 1] 2, D.sl [iD 1, iD 2, iD 7, iD 8] 4, D.sl [iD 4] 1, D.sl [iD 1, iD 3] 2] : List D) 0 (7 : Nat) 1 true ([D.sl [iD 3] 1, D.sl [iD 1, iD 2] 2, D.sl [iD 1, iD 2, iD 3, iD 4, iD 5, iD 6] 6, D.sl [iD 2, iD 1] 2, D.sl [iD 1, iD 2, iD 7, iD 8] 4, D.sl [iD 4] 1, D.sl [iD 1, iD 3] 2] : List D) (by rw [List.drop_zero, Nat.mul_one, List.take_of_length_le (by (simp only [qA, k8, uF, List.length_append, List.length_cons, List.length_nil, List.length_take, List.length_drop, List.length_replicate, List.length_set, List.length_map, List.length_reverse, Nat.mul_one] <;> omega))]) vY))) FzS.nil) FzG.nil ?_
 refine AW.ret ?_
 exact kB (.inr rfl) [] (P := (((kW lB) : List D) = [D.sl [iD 3] 1, D.sl [iD 1, iD 2] 2, D.sl [iD 1, iD 2, iD 3, iD 4, iD 5, iD 6] 6, D.sl [iD 2, iD 1] 2, D.sl [iD 1, iD 2, iD 7, iD 8] 4, D.sl [iD 4] 1, D.sl [iD 1, iD 3] 2]) ∧ (kQ 7)) zk ⟨(by rfl), rfl⟩
theorem u7f (l : List Int) (hb : Byt l) : Fun 80 [.c (.ptr 0 0)] (kD [(0, some (78, .ds [D.sl (dI .u8 l) (List.length l)]))]) 1 (sV .i64 (uY l) (List.length (uY l))) (kD [(0, some (78, .ds [D.sl (dI .u8 (kA l 7)) (List.length (kA l 7))]))]) 1 := by
 refine Fun.mk (n := 8) Tryz.func80 rfl rfl (Nat.le_of_ble_eq_true rfl) ?_
 intro cx hcx
 refine kG [.no] True [(0, rV 0 0)] [(0, some (78, .ds [db l (List.length l)]))] 1 trivial ?_
 have hx1 : ((((((kC l 7) : Nat) : Int) < 7) ∨ ((kC l 7) = 0)) ∧ ((kC l 7) ≤ 255)) := kZ l (7 : Int) (kL : Byt l)
 have hx2 : (Byt (kA l 7)) := kH (7 : Int) (kL : Byt l)
 have hx3 : ((List.length (List.getD lB (kC l 7) ([] : List Int))) ≤ 1000000) := MsW.at u62 _
 refine kG [.call [] (qX (kW lB) 7) [] 0 [] none, .no, .call [0] (uV (kC l 7)) [(0, some (78, .ds [db (kA l 7) (List.length (kA l 7))]))] 1 [] none, .n (kC l 7), .d (dl (List.getD lB (kC l 7) ([] : List Int)) (List.length (List.getD lB (kC l 7) ([] : List Int)))), .no] ((_) ∧ (_) ∧ (kM (kC l 7 : Int)) ∧ ((kC l 7) < 7) ∧ ((List.drop (kC l 7) (kW lB))[0]? = some (dl (List.getD lB (kC l 7) ([] : List Int)) (List.length (List.getD lB (kC l 7) ([] : List Int)))))) [(2, sV .i64 (List.getD lB (kC l 7) ([] : List Int)) (List.length (List.getD lB (kC l 7) ([] : List Int))))] [(0, some (78, .ds [db (kA l 7) (List.length (kA l 7))]))] 1 ⟨(u3u), (uL l 7 (kL : Byt l)), rfl, zo, (aF _ _ (by show _ < 7; omega))⟩ ?_
 refine AW.ret ?_
 exact kB (.inr rfl) [] (P := (((dI .i64 (uY l)) : List D) = (dI .i64 (List.getD lB (kC l 7) ([] : List Int)))) ∧ (((List.length (uY l)) : Nat) = (List.length (List.getD lB (kC l 7) ([] : List Int)))) ∧ (kY [db (kA l 7) (List.length (kA l 7))])) zk ⟨(by rfl), (by rfl), rfl⟩
abbrev b9 (l : List Int) (i : Nat) : BC := .ds [D.sl (dI .u8 (uB l i)) (List.length (uB l i))]
abbrev gV (l : List Int) (i : Nat) : BC := .ds [D.sl (dI .u8 (kA (uB l i) 2)) (List.length (kA (uB l i) 2))]
theorem u1e (sp : List Int) (n : Nat) (l : List Int) (hl : List.length sp = n * 2) (h1 : 1 ≤ n) (h2 : n ≤ 1000) (hb : Byt l) : Fun 79 [.c (.ptr 0 0), .c (.d (D.sl (dI .i64 sp) n))] (kD [(0, some (78, .ds [D.sl (dI .u8 l) (List.length l)]))]) 1 (.e (.agg [.d (D.sl (dI .i64 (dE (vX sp l n) (vT sp l n))) (yZ (vX sp l n) (vT sp l n)))])) (kD [(0, some (78, .ds [D.sl (dI .u8 (yI sp l n)) (List.length (yI sp l n))]))]) 1 := by
 refine Fun.mk (n := 43) Tryz.func79 rfl rfl (Nat.le_of_ble_eq_true rfl) ?_
 intro cx hcx
 refine kG [.no] True [(0, rV 0 0), (1, sV .i64 sp n), (4, rV 1 0)] [(0, some (78, .ds [db l (List.length l)])), (1, some (50, .ds [k9]))] 2 trivial ?_
 refine kV [.no] True [(0, rV 0 0), (1, sV .i64 sp n), (4, rV 1 0), (5, nV)] trivial ?_
 refine AW.seq ?_
 refine kV [.no, .no, .no] True [(0, rV 0 0), (1, sV .i64 sp n), (4, rV 1 0), (5, nV), (10, sV .i64 sp n), (11, uV n), (12, iV 0)] trivial ?_
 refine AW.block ?_
 refine AW.adoptS 5 2 90 rfl ?_
 refine kU 1 hcx (fun (x : {x : Nat × Nat × List Int // match x with | (i, k, o) => (i ≤ n ∧ k ≤ i) ∧ (oM sp l i = o) ∧ (List.length o = k * 2)}) => match x with | ⟨(i, k, o), _⟩ => (⟨[(0, rV 0 0), (1, sV .i64 sp n), (4, rV 1 0), (5, oV 3 0 k 2), (10, sV .i64 sp n), (11, uV n), (12, uV i)], [(0, some (78, (b9 l i))), (1, some (50, .ds [k9])), (3, some (90, .ds (dI .i64 o)))], 4⟩ : ES)) (fun x => match x with | ⟨(i, k, o), _⟩ => n - i) ⟨((0 : Nat), (0 : Nat), (([] : List Int) : List Int)), ⟨zo, rfl, rfl⟩⟩ [(3, 2)] (P := (kQ 0) ∧ (kY (dI .i64 sp)) ∧ (kQ n) ∧ (kQ 0) ∧ (kQ 0) ∧ (kQ 0) ∧ (kY (dI .i64 sp)) ∧ (kQ n) ∧ (kM (n : Int)) ∧ (kM 0) ∧ (([db (uB l 0) (List.length (uB l 0))] : List D) = [db l (List.length l)]) ∧ (kY [k9]) ∧ (((dI .i64 ([] : List Int)) : List D) = ([] : List D))) zk ⟨rfl, rfl, rfl, rfl, rfl, rfl, rfl, rfl, rfl, rfl, (by rfl), rfl, (by rfl)⟩ ?_
 rintro ⟨⟨i, k, o⟩, hinv0⟩
 obtain ⟨hi, hS, ho⟩ : (i ≤ n ∧ k ≤ i) ∧ (oM sp l i = o) ∧ (List.length o = k * 2) := hinv0
 refine qV (l := [(0, rV 0 0), (1, sV .i64 sp n), (4, rV 1 0), (5, oV 3 0 k 2), (10, sV .i64 sp n), (11, uV n), (12, uV i)]) (g := [(0, some (78, (b9 l i))), (1, some (50, .ds [k9])), (3, some (90, .ds (dI .i64 o)))]) (nx := 4) rfl rfl rfl ?_
 by_cases hx1 : (((i : Nat) : Int) < ((n : Nat) : Int))
 ·refine kG [.b true] (((i : Int) < (n : Int))) [(0, rV 0 0), (1, sV .i64 sp n), (4, rV 1 0), (5, oV 3 0 k 2), (10, sV .i64 sp n), (11, uV n), (12, uV i), (13, bV true)] [(0, some (78, (b9 l i))), (1, some (50, .ds [k9])), (3, some (90, .ds (dI .i64 o)))] 4 zo ?_
  refine AW.seq ?_
  refine u1 ?_
  refine AW.seq ?_
  refine AW.block ?_
  refine kG [.n i, .ds [iD (List.getD sp (i * 2) 0), iD (List.getD sp ((i * 2) + 1) 0)], .no, .no] ((kM (i : Int)) ∧ (i < n) ∧ (List.take 2 (List.drop (i * 2) (dI .i64 sp)) = [iD (List.getD sp (i * 2) 0), iD (List.getD sp ((i * 2) + 1) 0)]) ∧ (([iD (List.getD sp (i * 2) 0), iD (List.getD sp ((i * 2) + 1) 0)] : List D).length = 2)) [(0, rV 0 0), (1, sV .i64 sp n), (4, rV 1 0), (5, oV 3 0 k 2), (7, rV 4 0), (10, sV .i64 sp n), (11, uV n), (12, uV i)] [(0, some (78, (b9 l i))), (1, some (50, .ds [k9])), (3, some (90, .ds (dI .i64 o))), (4, some (90, .ds [iD (List.getD sp (i * 2) 0), iD (List.getD sp ((i * 2) + 1) 0)]))] 5 ⟨rfl, zo, (aH .i64 sp (i * 2) 2 zo), rfl⟩ ?_
  by_cases hx4 : ((((kC (uB l i) 2) : Nat) : Int) = 1)
  ·have hx5 : ((((((kC (uB l i) 2) : Nat) : Int) < 2) ∨ ((kC (uB l i) 2) = 0)) ∧ ((kC (uB l i) 2) ≤ 255)) := kZ (uB l i) (2 : Int) ((yY (kL : Byt l) _))
   have hx6 : (Byt (kA (uB l i) 2)) := kH (2 : Int) ((yY (kL : Byt l) _))
   refine kG [.no, .call [0] (uV (kC (uB l i) 2)) [(0, some (78, (gV l i)))] 1 [] none, .b true] ((_) ∧ (((kC (uB l i) 2 : Int) = 1))) [(0, rV 0 0), (1, sV .i64 sp n), (4, rV 1 0), (5, oV 3 0 k 2), (7, rV 4 0), (10, sV .i64 sp n), (11, uV n), (12, uV i), (18, bV true)] [(0, some (78, (gV l i))), (1, some (50, .ds [k9])), (3, some (90, .ds (dI .i64 o))), (4, some (90, .ds [iD (List.getD sp (i * 2) 0), iD (List.getD sp ((i * 2) + 1) 0)]))] 5 ⟨(uL (uB l i) 2 (yY (kL : Byt l) _)), zo⟩ ?_
   refine zt ?_
   refine aC [.no, .no, .no, .ap none (k + 1) (dI .i64 (o ++ ([(List.getD sp (i * 2) 0), (List.getD sp ((i * 2) + 1) 0)] : List Int))), .no] (([iD (List.getD sp (i * 2) 0), iD (List.getD sp ((i * 2) + 1) 0)].length = 1 * 2) ∧ (((dI .i64 o) : List D).length = k * 2) ∧ ((k + 1) * 16 ≤ 140737488355328) ∧ (k + 1 = (k + 1)) ∧ (((dI .i64 o) : List D) ++ [iD (List.getD sp (i * 2) 0), iD (List.getD sp ((i * 2) + 1) 0)] = (dI .i64 (o ++ ([(List.getD sp (i * 2) 0), (List.getD sp ((i * 2) + 1) 0)] : List Int))))) [(0, rV 0 0), (1, sV .i64 sp n), (4, rV 1 0), (5, oV 6 0 (k + 1) 2), (10, sV .i64 sp n), (11, uV n), (12, uV i)] [(0, some (78, (gV l i))), (1, some (50, .ds [k9])), (6, some (90, .ds (dI .i64 (o ++ ([(List.getD sp (i * 2) 0), (List.getD sp ((i * 2) + 1) 0)] : List Int)))))] 7 ⟨vY, vY, zo, zo, (uK .i64 o ([(List.getD sp (i * 2) 0), (List.getD sp ((i * 2) + 1) 0)] : List Int))⟩ ?_
   refine uG [.w, .no] (qB ((i : Int) + 1)) [(0, rV 0 0), (1, sV .i64 sp n), (4, rV 1 0), (5, oV 6 0 (k + 1) 2), (10, sV .i64 sp n), (11, uV n), (12, iV (↑i + 1))] ⟨by omega, by omega⟩ ?_
   exact qH ⟨(((i + 1) : Nat), ((k + 1) : Nat), ((o ++ ([(List.getD sp (i * 2) 0), (List.getD sp ((i * 2) + 1) 0)] : List Int)) : List Int)), ⟨zo, (by exact u82 hS zo), (by (simp only [qA, k8, List.length_append, List.length_cons, List.length_nil] <;> omega))⟩⟩ [(3, 6)] (P := (kQ 0) ∧ (kY (dI .i64 sp)) ∧ (kQ n) ∧ (kQ 0) ∧ (kQ 0) ∧ (kQ (k + 1)) ∧ (kY (dI .i64 sp)) ∧ (kQ n) ∧ (kM (n : Int)) ∧ (((((i + 1) : Nat) : Int) : Int) = ((i : Int) + 1)) ∧ (([db (uB l (i + 1)) (List.length (uB l (i + 1)))] : List D) = [db (kA (uB l i) 2) (List.length (kA (uB l i) 2))]) ∧ (kY [k9]) ∧ (kY (dI .i64 (o ++ ([(List.getD sp (i * 2) 0), (List.getD sp ((i * 2) + 1) 0)] : List Int))))) zk ⟨rfl, rfl, rfl, rfl, rfl, rfl, rfl, rfl, rfl, (by rfl), (by rfl), rfl, rfl⟩ (show n - (i + 1) < n - i from zo)
  ·have hx7 : ((((((kC (uB l i) 2) : Nat) : Int) < 2) ∨ ((kC (uB l i) 2) = 0)) ∧ ((kC (uB l i) 2) ≤ 255)) := kZ (uB l i) (2 : Int) ((yY (kL : Byt l) _))
   have hx8 : (Byt (kA (uB l i) 2)) := kH (2 : Int) ((yY (kL : Byt l) _))
   refine kG [.no, .call [0] (uV (kC (uB l i) 2)) [(0, some (78, (gV l i)))] 1 [] none, .b false] ((_) ∧ (¬ ((kC (uB l i) 2 : Int) = 1))) [(0, rV 0 0), (1, sV .i64 sp n), (4, rV 1 0), (5, oV 3 0 k 2), (7, rV 4 0), (10, sV .i64 sp n), (11, uV n), (12, uV i), (18, bV false)] [(0, some (78, (gV l i))), (1, some (50, .ds [k9])), (3, some (90, .ds (dI .i64 o))), (4, some (90, .ds [iD (List.getD sp (i * 2) 0), iD (List.getD sp ((i * 2) + 1) 0)]))] 5 ⟨(uL (uB l i) 2 (yY (kL : Byt l) _)), zo⟩ ?_
   refine uM ?_
   refine aC [.w, .no] (qB ((i : Int) + 1)) [(0, rV 0 0), (1, sV .i64 sp n), (4, rV 1 0), (5, oV 3 0 k 2), (10, sV .i64 sp n), (11, uV n), (12, iV (↑i + 1))] [(0, some (78, (gV l i))), (1, some (50, .ds [k9])), (3, some (90, .ds (dI .i64 o)))] 5 ⟨by omega, by omega⟩ ?_
   exact qH ⟨(((i + 1) : Nat), (k : Nat), (o : List Int)), ⟨zo, (by exact u83 hS zo), (by assumption)⟩⟩ [] (P := (kQ 0) ∧ (kY (dI .i64 sp)) ∧ (kQ n) ∧ (kQ 0) ∧ (kQ 0) ∧ (kQ k) ∧ (kY (dI .i64 sp)) ∧ (kQ n) ∧ (kM (n : Int)) ∧ (((((i + 1) : Nat) : Int) : Int) = ((i : Int) + 1)) ∧ (([db (uB l (i + 1)) (List.length (uB l (i + 1)))] : List D) = [db (kA (uB l i) 2) (List.length (kA (uB l i) 2))]) ∧ (kY [k9]) ∧ (kY (dI .i64 o))) zk ⟨rfl, rfl, rfl, rfl, rfl, rfl, rfl, rfl, rfl, (by rfl), (by rfl), rfl, rfl⟩ (show n - (i + 1) < n - i from zo)
 ·refine kG [.b false] (¬ ((i : Int) < (n : Int))) [(0, rV 0 0), (1, sV .i64 sp n), (4, rV 1 0), (5, oV 3 0 k 2), (10, sV .i64 sp n), (11, uV n), (12, uV i), (13, bV false)] [(0, some (78, (b9 l i))), (1, some (50, .ds [k9])), (3, some (90, .ds (dI .i64 o)))] 4 zo ?_
  refine AW.seq ?_
  refine zf ?_
  refine AW.exit ?_
  refine AW.seq ?_
  by_cases hx9 : (((k : Nat) : Int) = 0)
  ·refine kG [.no, .no, .b true] (((k : Int) = 0)) [(0, rV 0 0), (1, sV .i64 sp n), (4, rV 1 0), (5, oV 3 0 k 2), (26, bV true)] [(0, some (78, (b9 l i))), (1, some (50, .ds [k9])), (3, some (90, .ds (dI .i64 o)))] 4 zo ?_
   refine zt ?_
   have hx10 : ((((((kC (uB l i) ((n : Nat) : Int)) : Nat) : Int) < ((n : Nat) : Int)) ∨ ((kC (uB l i) ((n : Nat) : Int)) = 0)) ∧ ((kC (uB l i) ((n : Nat) : Int)) ≤ 255)) := kZ (uB l i) ((n : Nat) : Int) ((yY (kL : Byt l) _))
   have hx11 : (Byt (kA (uB l i) ((n : Nat) : Int))) := kH ((n : Nat) : Int) ((yY (kL : Byt l) _))
   refine aC (kJ 5 [.call [0] (uV (kC (uB l i) (n : Int))) [(0, some (78, .ds [db (kA (uB l i) (n : Int)) (List.length (kA (uB l i) (n : Int)))]))] 1 [] none, .n (kC (uB l i) (n : Int)), .ds [iD (List.getD sp ((kC (uB l i) (n : Int)) * 2) 0), iD (List.getD sp (((kC (uB l i) (n : Int)) * 2) + 1) 0)], .no, .ap none (k + 1) (dI .i64 (o ++ ([(List.getD sp ((kC (uB l i) (n : Int)) * 2) 0), (List.getD sp (((kC (uB l i) (n : Int)) * 2) + 1) 0)] : List Int))), .no]) ((_) ∧ (kM (((kC (uB l i) (n : Int)) : Nat) : Int)) ∧ ((kC (uB l i) (n : Int)) < n) ∧ (List.take 2 (List.drop ((kC (uB l i) (n : Int)) * 2) (dI .i64 sp)) = [iD (List.getD sp ((kC (uB l i) (n : Int)) * 2) 0), iD (List.getD sp (((kC (uB l i) (n : Int)) * 2) + 1) 0)]) ∧ (([iD (List.getD sp ((kC (uB l i) (n : Int)) * 2) 0), iD (List.getD sp (((kC (uB l i) (n : Int)) * 2) + 1) 0)] : List D).length = 2) ∧ ([iD (List.getD sp ((kC (uB l i) (n : Int)) * 2) 0), iD (List.getD sp (((kC (uB l i) (n : Int)) * 2) + 1) 0)].length = 1 * 2) ∧ (((dI .i64 o) : List D).length = k * 2) ∧ ((k + 1) * 16 ≤ 140737488355328) ∧ (k + 1 = (k + 1)) ∧ (((dI .i64 o) : List D) ++ [iD (List.getD sp ((kC (uB l i) (n : Int)) * 2) 0), iD (List.getD sp (((kC (uB l i) (n : Int)) * 2) + 1) 0)] = (dI .i64 (o ++ ([(List.getD sp ((kC (uB l i) (n : Int)) * 2) 0), (List.getD sp (((kC (uB l i) (n : Int)) * 2) + 1) 0)] : List Int))))) [(4, rV 1 0), (5, oV 5 0 (k + 1) 2)] [(0, some (78, .ds [db (kA (uB l i) ↑n) (List.length (kA (uB l i) ↑n))])), (1, some (50, .ds [k9])), (5, some (90, .ds (dI .i64 (o ++ ([(List.getD sp ((kC (uB l i) ↑n) * 2) 0), (List.getD sp (((kC (uB l i) ↑n) * 2) + 1) 0)] : List Int)))))] 6 ⟨(uL (uB l i) (n : Int) (yY (kL : Byt l) _)), rfl, zo, (aH .i64 sp ((kC (uB l i) (n : Int)) * 2) 2 zo), rfl, vY, vY, zo, zo, (uK .i64 o ([(List.getD sp ((kC (uB l i) (n : Int)) * 2) 0), (List.getD sp (((kC (uB l i) (n : Int)) * 2) + 1) 0)] : List Int))⟩ ?_
   refine AW.freeze 5 (l' := [(4, rV 1 0), (5, sV .i64 (o ++ ([(List.getD sp ((kC (uB l i) (n : Int)) * 2) 0), (List.getD sp (((kC (uB l i) (n : Int)) * 2) + 1) 0)] : List Int)) (k + 1))]) (g' := [(0, some (78, .ds [db (kA (uB l i) (n : Int)) (List.length (kA (uB l i) (n : Int)))])), (1, some (50, .ds [k9]))]) rfl (FzS.cons rfl (.same _) (FzS.cons rfl (.e (.c (@FzC.own 5 ((dI .i64 (o ++ ([(List.getD sp ((kC (uB l i) (n : Int)) * 2) 0), (List.getD sp (((kC (uB l i) (n : Int)) * 2) + 1) 0)] : List Int))) : List D) 0 (k + 1) 2 true ((dI .i64 (o ++ ([(List.getD sp ((kC (uB l i) (n : Int)) * 2) 0), (List.getD sp (((kC (uB l i) (n : Int)) * 2) + 1) 0)] : List Int))) : List D) (by rw [List.drop_zero, List.take_of_length_le (by (simp only [qA, k8, uF, List.length_append, List.length_cons, List.length_nil, List.length_take, List.length_drop, List.length_replicate, List.length_set, List.length_map, List.length_reverse, Nat.mul_one] <;> omega))]) vY))) FzS.nil)) (qF rfl rfl (qF rfl rfl FzG.nil)) ?_
   have hx12 : ((List.length (dE (o ++ ([(List.getD sp ((kC (uB l i) ((n : Nat) : Int)) * 2) 0), (List.getD sp (((kC (uB l i) ((n : Nat) : Int)) * 2) + 1) 0)] : List Int)) (k + 1))) = ((yZ (o ++ ([(List.getD sp ((kC (uB l i) ((n : Nat) : Int)) * 2) 0), (List.getD sp (((kC (uB l i) ((n : Nat) : Int)) * 2) + 1) 0)] : List Int)) (k + 1)) * 2)) := fO (o ++ ([(List.getD sp ((kC (uB l i) ((n : Nat) : Int)) * 2) 0), (List.getD sp (((kC (uB l i) ((n : Nat) : Int)) * 2) + 1) 0)] : List Int)) (k + 1)
   have hx13 : ((((0 : Int) ≤ (mG (o ++ ([(List.getD sp ((kC (uB l i) ((n : Nat) : Int)) * 2) 0), (List.getD sp (((kC (uB l i) ((n : Nat) : Int)) * 2) + 1) 0)] : List Int)) (k + 1))) ∧ ((mG (o ++ ([(List.getD sp ((kC (uB l i) ((n : Nat) : Int)) * 2) 0), (List.getD sp (((kC (uB l i) ((n : Nat) : Int)) * 2) + 1) 0)] : List Int)) (k + 1)) ≤ 3)) ∧ ((yZ (o ++ ([(List.getD sp ((kC (uB l i) ((n : Nat) : Int)) * 2) 0), (List.getD sp (((kC (uB l i) ((n : Nat) : Int)) * 2) + 1) 0)] : List Int)) (k + 1)) ≤ 64)) := lC (o ++ ([(List.getD sp ((kC (uB l i) ((n : Nat) : Int)) * 2) 0), (List.getD sp (((kC (uB l i) ((n : Nat) : Int)) * 2) + 1) 0)] : List Int)) (k + 1)
   refine kG (.no :: .call [] (.tup [.agg [.d (dl (dE (o ++ ([(List.getD sp ((kC (uB l i) (n : Int)) * 2) 0), (List.getD sp (((kC (uB l i) (n : Int)) * 2) + 1) 0)] : List Int)) (k + 1)) (yZ (o ++ ([(List.getD sp ((kC (uB l i) (n : Int)) * 2) 0), (List.getD sp (((kC (uB l i) (n : Int)) * 2) + 1) 0)] : List Int)) (k + 1)))], iE (mG (o ++ ([(List.getD sp ((kC (uB l i) (n : Int)) * 2) 0), (List.getD sp (((kC (uB l i) (n : Int)) * 2) + 1) 0)] : List Int)) (k + 1))]) [] 0 [] none :: kJ 6 []) _ [(4, rV 1 0), (8, rV 6 0)] [(0, some (78, .ds [db (kA (uB l i) ↑n) (List.length (kA (uB l i) ↑n))])), (1, some (50, .ds [k9])), (6, some (50, .ds [dl (dE (o ++ ([(List.getD sp ((kC (uB l i) ↑n) * 2) 0), (List.getD sp (((kC (uB l i) ↑n) * 2) + 1) 0)] : List Int)) (k + 1)) (yZ (o ++ ([(List.getD sp ((kC (uB l i) ↑n) * 2) 0), (List.getD sp (((kC (uB l i) ↑n) * 2) + 1) 0)] : List Int)) (k + 1))]))] 7 (k0m (o ++ ([(List.getD sp ((kC (uB l i) (n : Int)) * 2) 0), (List.getD sp (((kC (uB l i) (n : Int)) * 2) + 1) 0)] : List Int)) (k + 1) (by (simp only [qA, k8, List.length_append, List.length_cons, List.length_nil, List.length_take, List.length_drop, List.length_replicate, List.length_set] <;> omega)) zo) ?_
   refine kG [.no, .no] True [(4, rV 1 0)] [(0, some (78, .ds [db (kA (uB l i) ↑n) (List.length (kA (uB l i) ↑n))])), (1, some (50, .ds [dl (dE (o ++ ([(List.getD sp ((kC (uB l i) ↑n) * 2) 0), (List.getD sp (((kC (uB l i) ↑n) * 2) + 1) 0)] : List Int)) (k + 1)) (yZ (o ++ ([(List.getD sp ((kC (uB l i) ↑n) * 2) 0), (List.getD sp (((kC (uB l i) ↑n) * 2) + 1) 0)] : List Int)) (k + 1))]))] 7 trivial ?_
   obtain ⟨hz1, hz2, hz3⟩ := u85 hS (show i = n by omega) ho zo
   refine AW.ret ?_
   exact kB (.inr rfl) [] (P := (((dI .i64 (dE (vX sp l n) (vT sp l n))) : List D) = (dI .i64 (dE (o ++ ([(List.getD sp ((kC (uB l i) (n : Int)) * 2) 0), (List.getD sp (((kC (uB l i) (n : Int)) * 2) + 1) 0)] : List Int)) (k + 1)))) ∧ (((yZ (vX sp l n) (vT sp l n)) : Nat) = (yZ (o ++ ([(List.getD sp ((kC (uB l i) (n : Int)) * 2) 0), (List.getD sp (((kC (uB l i) (n : Int)) * 2) + 1) 0)] : List Int)) (k + 1))) ∧ (([db (yI sp l n) (List.length (yI sp l n))] : List D) = [db (kA (uB l i) (n : Int)) (List.length (kA (uB l i) (n : Int)))])) zk ⟨(by (rw [hz1, hz3]; done)), (by (rw [hz1, hz3]; done)), (by (rw [hz2]; done))⟩
  ·refine kG [.no, .no, .b false] (¬ ((k : Int) = 0)) [(0, rV 0 0), (1, sV .i64 sp n), (4, rV 1 0), (5, oV 3 0 k 2), (26, bV false)] [(0, some (78, (b9 l i))), (1, some (50, .ds [k9])), (3, some (90, .ds (dI .i64 o)))] 4 zo ?_
   refine uM ?_
   refine AW.freeze 3 (l' := [(0, rV 0 0), (1, sV .i64 sp n), (4, rV 1 0), (5, sV .i64 o k), (26, bV false)]) (g' := [(0, some (78, (b9 l i))), (1, some (50, .ds [k9]))]) rfl (FzS.cons rfl (.same _) (FzS.cons rfl (.same _) (FzS.cons rfl (.same _) (FzS.cons rfl (.e (.c (@FzC.own 3 ((dI .i64 o) : List D) 0 k 2 true ((dI .i64 o) : List D) (by rw [List.drop_zero, List.take_of_length_le (by (simp only [qA, k8, uF, List.length_append, List.length_cons, List.length_nil, List.length_take, List.length_drop, List.length_replicate, List.length_set, List.length_map, List.length_reverse, Nat.mul_one] <;> omega))]) vY))) (FzS.cons rfl (.same _) FzS.nil))))) (qF rfl rfl (qF rfl rfl FzG.nil)) ?_
   have hx14 : ((List.length (dE o k)) = ((yZ o k) * 2)) := fO o k
   have hx15 : ((((0 : Int) ≤ (mG o k)) ∧ ((mG o k) ≤ 3)) ∧ ((yZ o k) ≤ 64)) := lC o k
   refine kG (.no :: .call [] (.tup [.agg [.d (dl (dE o k) (yZ o k))], iE (mG o k)]) [] 0 [] none :: kJ 6 []) _ [(4, rV 1 0), (8, rV 4 0)] [(0, some (78, (b9 l i))), (1, some (50, .ds [k9])), (4, some (50, .ds [dl (dE o k) (yZ o k)]))] 5 (k0m o k zo zo) ?_
   refine kG [.no, .no] True [(4, rV 1 0)] [(0, some (78, (b9 l i))), (1, some (50, .ds [dl (dE o k) (yZ o k)]))] 5 trivial ?_
   obtain ⟨hz1, hz2, hz3⟩ := u84 hS (show i = n by omega) ho zo
   refine AW.ret ?_
   exact kB (.inr rfl) [] (P := (((dI .i64 (dE (vX sp l n) (vT sp l n))) : List D) = (dI .i64 (dE o k))) ∧ (((yZ (vX sp l n) (vT sp l n)) : Nat) = (yZ o k)) ∧ (([db (yI sp l n) (List.length (yI sp l n))] : List D) = [db (uB l i) (List.length (uB l i))])) zk ⟨(by (rw [hz1, hz3]; done)), (by (rw [hz1, hz3]; done)), (by (rw [hz2]; done))⟩
end Go.Proofs.YtdbjebdomdnbkaaGreat
