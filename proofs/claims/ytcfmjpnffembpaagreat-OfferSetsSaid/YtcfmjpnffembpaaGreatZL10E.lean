/- Merged texts. -/
import Derived.Test.YtcfmjpnffembpaaGreatZLBy
import Derived.Test.YtcfmjpnffembpaaGreatZL10D
namespace Go.Proofs.YtcfmjpnffembpaaGreat
open Go.ChangeShapes Go.WideShapes Go.ChangeAt Go.RowKit
set_option linter.unusedVariables false
set_option linter.unusedSimpArgs false
set_option maxHeartbeats 4000000
set_option maxRecDepth 100000
def kA (l : List Int) (n : Int) : Nat := if l.length = 0 ∨ n ≤ 1 then 0 else (List.getD l 0 0 % n).toNat
def kD (l : List Int) (n : Int) : List Int := if l.length = 0 ∨ n ≤ 1 then l else List.drop 1 l
theorem fO {l : List Int} {n : Int} (h : l.length = 0 ∨ n ≤ 1) : ((kA l n : Nat) : Int) = 0 := by unfold kA; rw [if_pos h]; rfl
theorem oQ {l : List Int} {n : Int} (h : l.length = 0 ∨ n ≤ 1) : kD l n = l := if_pos h
theorem tX {l : List Int} {n : Int} (hb : Byt l) (h : ¬ (l.length = 0 ∨ n ≤ 1)) : ((kA l n : Nat) : Int) = List.getD l 0 0 % n := by
  unfold kA; rw [if_neg h]; exact Int.toNat_of_nonneg (Int.emod_nonneg _ (by omega))
theorem k48 {l : List Int} {n : Int} (h : ¬ (l.length = 0 ∨ n ≤ 1)) : kD l n = List.drop 1 l := if_neg h
theorem qL {l : List Int} (n : Int) (h : Byt l) : Byt (kD l n) := by
  unfold kD; split
  · exact h
  · exact h.drop 1
theorem uG (l : List Int) (n : Int) (h : Byt l) : (((kA l n : Nat) : Int) < n ∨ kA l n = 0) ∧ kA l n ≤ 255 := by
  by_cases hn : l.length = 0 ∨ n ≤ 1
  · have := fO hn; omega
  · have e0 := tX h hn
    have h0 := Byt.at h 0 (by omega)
    have e3 := Int.emod_lt_of_pos (List.getD l 0 0) (b := n) (by omega)
    have e1 := Int.mul_ediv_add_emod (List.getD l 0 0) n
    have e2 : 0 ≤ n * (List.getD l 0 0 / n) := Int.mul_nonneg (by omega) (Int.ediv_nonneg h0.1 (by omega))
    omega
@[reducible] def qA (n : Nat) (s : List Int) : List Int := (List.take (min n 300) s)
theorem k7f (l : List Int) (n : Nat) (hn : List.length l = n) (hb : n ≤ 9223372036854775807) : Fun 36 [.c (.d (D.sl (dI .u8 l) n))] (kE []) 0 (rV 0 0) (kE [(0, some (95, .ds [D.sl (dI .u8 (qA n l)) (List.length (qA n l))]))]) 1 := by
  refine Fun.mk (n := 10) Tryz.func36 rfl rfl (Nat.le_of_ble_eq_true rfl) ?_
  intro cx hcx
  refine kI [.no] True [(0, sV .u8 l n)] [] 0 trivial ?_
  refine kI (kT 4 [.sls 0 (min n 300) (min n 300) (dI .u8 (qA n l)), .no, .no, .no]) ((kG 0) ∧ (((min (n : Int) 300) : Int) = (((min n 300) : Nat) : Int)) ∧ ((0 : Nat) ≤ (min n 300)) ∧ ((min n 300) ≤ n) ∧ ((min n 300) - 0 = (min n 300)) ∧ (List.take ((min n 300) * 1) (List.drop (0 * 1) (dI .u8 l)) = (dI .u8 (qA n l)))) [(2, rV 0 0)] [(0, some (95, .ds [db (qA n l) (min n 300)]))] 1 ⟨rfl, zo, zo, zo, zo, (by (simp only [sD, lW, aN, Nat.mul_one, Nat.zero_mul, List.drop_zero, List.nil_append, List.append_nil]; done))⟩ ?_
  refine AW.ret ?_
  exact kC (.inr rfl) [] (P := (kG 0) ∧ (([db (qA n l) (List.length (qA n l))] : List D) = [db (qA n l) (min n 300)])) zk ⟨rfl, (by have e9 : (qA n l).length = min n 300 := (by rw [List.length_take]; omega); rw [e9])⟩
theorem uQ (l : List Int) (n : Int) (hb : Byt l) : Fun 38 [.c (.ptr 0 0), iE n] (kE [(0, some (95, .ds [D.sl (dI .u8 l) (List.length l)]))]) 1 (iV (((kA l n) : Nat) : Int)) (kE [(0, some (95, .ds [D.sl (dI .u8 (kD l n)) (List.length (kD l n))]))]) 1 := by
  refine Fun.mk (n := 34) Tryz.func38 rfl rfl (Nat.le_of_ble_eq_true rfl) ?_
  intro cx hcx
  refine kI [.no] True [(0, rV 0 0), (1, iV n)] [(0, some (95, .ds [db l (List.length l)]))] 1 trivial ?_
  refine AW.seq ?_
  by_cases hx1 : ((((List.length l) : Nat) : Int) = 0)
  · refine zr (kT 5 [.b true, .no, .no]) [0, 1, 15] [0] (((List.length l : Int) = 0)) [(0, rV 0 0), (1, iV n), (15, bV true)] [(0, some (95, .ds [db l (List.length l)]))] 1 zo ?_
    refine zt ?_
    refine kI [.no] True [(4, iV 0)] [(0, some (95, .ds [db l (List.length l)]))] 1 trivial ?_
    refine AW.ret ?_
    exact kC (.inr rfl) [] (P := (((kA l n : Int) : Int) = 0) ∧ (([db (kD l n) (List.length (kD l n))] : List D) = [db l (List.length l)])) zk ⟨(by exact fO zo), (by rw [oQ (by omega)])⟩
  · by_cases hx2 : (n ≤ 1)
    · refine zr (kT 5 [.b false, .no, .no, .b true, .no]) [0, 1, 15] [0] ((¬ ((List.length l : Int) = 0)) ∧ ((n ≤ 1))) [(0, rV 0 0), (1, iV n), (15, bV true)] [(0, some (95, .ds [db l (List.length l)]))] 1 ⟨zo, zo⟩ ?_
      refine zt ?_
      refine kI [.no] True [(4, iV 0)] [(0, some (95, .ds [db l (List.length l)]))] 1 trivial ?_
      refine AW.ret ?_
      exact kC (.inr rfl) [] (P := (((kA l n : Int) : Int) = 0) ∧ (([db (kD l n) (List.length (kD l n))] : List D) = [db l (List.length l)])) zk ⟨(by exact fO zo), (by rw [oQ (by omega)])⟩
    · refine zr (kT 5 [.b false, .no, .no, .b false, .no]) [0, 1, 15] [0] ((¬ ((List.length l : Int) = 0)) ∧ (¬ (n ≤ 1))) [(0, rV 0 0), (1, iV n), (15, bV false)] [(0, some (95, .ds [db l (List.length l)]))] 1 ⟨zo, zo⟩ ?_
      refine q8 ?_
      have hx3 : 0 ≤ (List.getD l 0 0) ∧ (List.getD l 0 0) ≤ 255 := hb.at 0 zo
      refine kI (kT 4 [.n 0, .d (D.lit (.int .u8 (List.getD l 0 0))), .w, .no]) ((kM 0) ∧ ((0 : Nat) < (List.length l)) ∧ ((List.drop 0 (dI .u8 l))[0]? = some (D.lit (.int .u8 (List.getD l 0 0)))) ∧ (uZ (List.getD l 0 0))) [(0, rV 0 0), (1, iV n), (5, iV (List.getD l 0 0))] [(0, some (95, .ds [db l (List.length l)]))] 1 ⟨rfl, zo, (uI _ _ _ zo), ⟨by omega, by omega⟩⟩ ?_
      refine kI (kT 5 [.sls 1 (List.length l) ((List.length l) - 1) (dI .u8 (List.drop 1 l)), .no, .no, .no]) ((kM 1) ∧ ((List.length l) = (List.length l)) ∧ ((1 : Nat) ≤ (List.length l)) ∧ ((List.length l) ≤ (List.length l)) ∧ ((List.length l) - 1 = ((List.length l) - 1)) ∧ (List.take (((List.length l) - 1) * 1) (List.drop (1 * 1) (dI .u8 l)) = (dI .u8 (List.drop 1 l)))) [(1, iV n), (5, iV (List.getD l 0 0))] [(0, some (95, .ds [db (List.drop 1 l) ((List.length l) - 1)]))] 1 ⟨rfl, rfl, zo, zo, zo, (by (rw [List.take_of_length_le (by simp only [y9, uA, List.length_drop, List.length_replicate, Nat.mul_one] <;> omega)]; (simp only [lW, Nat.mul_one, Nat.zero_mul, List.drop_zero]; done)))⟩ ?_
      refine kN [.no, .no, .ps, .no] (((0 : Int) ≤ ((List.getD l 0 0) : Int)) ∧ ((0 : Int) < (n : Int))) [(4, iV ((List.getD l 0 0) % n))] ⟨zo, zo⟩ ?_
      refine AW.ret ?_
      exact kC (.inr rfl) [] (P := (((kA l n : Int) : Int) = ((List.getD l 0 0) % n)) ∧ (([db (kD l n) (List.length (kD l n))] : List D) = [db (List.drop 1 l) ((List.length l) - 1)])) zk ⟨(by exact tX hb zo), (by rw [k48 (by omega), List.length_drop])⟩
end Go.Proofs.YtcfmjpnffembpaaGreat
namespace Go.Proofs.YtcfmjpnffembpaaGreat
open Go.ChangeShapes Go.WideShapes Go.ChangeAt Go.RowKit
set_option linter.unusedVariables false
set_option linter.unusedSimpArgs false
/-! chapter 10: boxes out of dice -/
set_option maxHeartbeats 4000000
set_option maxRecDepth 100000
def oR : List (List Int) := [[3], [1, 2], [1, 2, 3, 4, 5, 6], [2, 1], [1, 2, 7, 8], [4], [1, 3]]
theorem u4x : MsW oR := fun l h => by
 have h1 : ∀ l ∈ oR, List.length l ≤ 6 := by decide
 have := h1 l h; omega
def yH (l : List Int) : List Int := List.getD oR (kA l 7) []
def uN (l : List Int) : Nat → List Int
 | 0 => l
 | i + 1 => kD (uN l i) 2
def xV (sp l : List Int) : Nat → List Int
 | 0 => []
 | i + 1 => if kA (uN l i) 2 = 1 then xV sp l i ++ [List.getD sp (i * 2) 0, List.getD sp (i * 2 + 1) 0] else xV sp l i
theorem aK {l : List Int} (h : Byt l) : ∀ i, Byt (uN l i)
 | 0 => h
 | i + 1 => qL _ (aK h i)
theorem u7c {sp l : List Int} {i : Nat} {o : List Int} (h : xV sp l i = o) (h1 : kA (uN l i) 2 = 1) : xV sp l (i + 1) = o ++ [List.getD sp (i * 2) 0, List.getD sp (i * 2 + 1) 0] := by
 subst h; exact if_pos h1
theorem u7d {sp l : List Int} {i : Nat} {o : List Int} (h : xV sp l i = o) (h1 : ¬ kA (uN l i) 2 = 1) : xV sp l (i + 1) = o := by
 subst h; exact if_neg h1
def bB (sp l : List Int) (n : Nat) : List Int := if xV sp l n = [] then [List.getD sp (kA (uN l n) (n : Int) * 2) 0, List.getD sp (kA (uN l n) (n : Int) * 2 + 1) 0] else xV sp l n
def y8 (sp l : List Int) (n : Nat) : List Int := if xV sp l n = [] then kD (uN l n) (n : Int) else uN l n
def bE (sp l : List Int) (n : Nat) : Nat := (bB sp l n).length / 2
theorem bZ {sp l : List Int} {n : Nat} (h : Byt l) : Byt (y8 sp l n) := by unfold y8; split; exact qL _ (aK h n); exact aK h n
theorem u7l {sp l o : List Int} {n k i : Nat} (h : xV sp l i = o) (hi : i = n) (hl : o.length = k * 2) (hk : k = 0) : bB sp l n = o ++ [List.getD sp (kA (uN l i) (n : Int) * 2) 0, List.getD sp (kA (uN l i) (n : Int) * 2 + 1) 0] ∧ y8 sp l n = kD (uN l i) (n : Int) ∧ bE sp l n = k + 1 := by
 subst hi; subst hk
 have h2 : o = [] := List.eq_nil_of_length_eq_zero (by omega)
 have h0 : xV sp l i = [] := by rw [h, h2]
 have h1 : bB sp l i = [List.getD sp (kA (uN l i) (i : Int) * 2) 0, List.getD sp (kA (uN l i) (i : Int) * 2 + 1) 0] := if_pos h0
 refine ⟨by rw [h1, h2]; rfl, if_pos h0, ?_⟩
 unfold bE; rw [h1, List.length_cons, List.length_cons, List.length_nil]
theorem u7k {sp l o : List Int} {n k i : Nat} (h : xV sp l i = o) (hi : i = n) (hl : o.length = k * 2) (hk : 1 ≤ k) : bB sp l n = o ∧ y8 sp l n = uN l i ∧ bE sp l n = k := by
 subst hi
 have h0 : ¬ xV sp l i = [] := fun e => by rw [h] at e; rw [e] at hl; have : (0 : Nat) = k * 2 := hl; omega
 have h1 : bB sp l i = o := by unfold bB; rw [if_neg h0, h]
 refine ⟨h1, if_neg h0, ?_⟩
 unfold bE; rw [h1, hl]; omega
theorem zH (l : List Int) : List.length (yH l) ≤ 6 := by
 have h1 : ∀ l ∈ oR, List.length l ≤ 6 := by decide
 unfold yH
 rw [List.getD_eq_getElem?_getD]
 cases e : oR[kA l 7]? with
 | none => exact Nat.zero_le _
 | some x => exact h1 x (List.mem_of_getElem? e)
theorem k0r {l : List Int} (h : Byt l) : 1 ≤ List.length (yH l) ∧ List.length (yH l) ≤ 6 := by
 refine ⟨?_, zH l⟩
 have h1 : ∀ x ∈ oR, 1 ≤ List.length x := by decide
 have h2 := uG l 7 h
 have h3 : kA l 7 < oR.length := by show _ < 7; omega
 unfold yH
 rw [List.getD_eq_getElem?_getD, List.getElem?_eq_getElem h3]
 exact h1 _ (List.getElem_mem h3)
theorem aS {p : Prop} (h : p := by (simp only [qH, qE, uA, List.length_append, List.length_cons, List.length_nil, List.length_take, List.length_drop, List.length_replicate, List.length_set, List.length_map, List.length_reverse, Nat.mul_one] <;> omega)) : p := h
theorem u3f   : Fun 99 [] (kE []) 0 (qJ (kL oR) 7) (kE []) 0 := by
 refine Fun.mk (n := 9) Tryz.func99 rfl rfl (Nat.le_of_ble_eq_true rfl) ?_
 intro cx hcx
 refine kI [.no] True [] [] 0 trivial ?_
 refine kI [(.fz (.no)), (.fz (.no)), (.fz (.no)), (.fz (.no)), (.fz (.no)), (.fz (.no)), (.fz (.no)), .no, .no] ((([iD 3] : List D).length = 1 * 1) ∧ (([iD 1, iD 2] : List D).length = 2 * 1) ∧ (([iD 1, iD 2, iD 3, iD 4, iD 5, iD 6] : List D).length = 6 * 1) ∧ (([iD 2, iD 1] : List D).length = 2 * 1) ∧ (([iD 1, iD 2, iD 7, iD 8] : List D).length = 4 * 1) ∧ (([iD 4] : List D).length = 1 * 1) ∧ (([iD 1, iD 3] : List D).length = 2 * 1)) [(0, oV 7 0 7 1)] [(7, some (23, .ds [D.sl [iD 3] 1, D.sl [iD 1, iD 2] 2, D.sl [iD 1, iD 2, iD 3, iD 4, iD 5, iD 6] 6, D.sl [iD 2, iD 1] 2, D.sl [iD 1, iD 2, iD 7, iD 8] 4, D.sl [iD 4] 1, D.sl [iD 1, iD 3] 2]))] 8 ⟨aS, aS, aS, aS, aS, aS, aS⟩ ?_
 refine AW.freeze 7 (l' := [(0, qJ [D.sl [iD 3] 1, D.sl [iD 1, iD 2] 2, D.sl [iD 1, iD 2, iD 3, iD 4, iD 5, iD 6] 6, D.sl [iD 2, iD 1] 2, D.sl [iD 1, iD 2, iD 7, iD 8] 4, D.sl [iD 4] 1, D.sl [iD 1, iD 3] 2] 7)]) (g' := []) rfl (FzS.cons rfl (.e (.c (@FzC.own 7 ([D.sl [iD 3] 1, D.sl [iD 1, iD 2] 2, D.sl [iD 1, iD 2, iD 3, iD 4, iD 5, iD 6] 6, D.sl [iD 2, iD 1] 2, D.sl [iD 1, iD 2, iD 7, iD 8] 4, D.sl [iD 4] 1, D.sl [iD 1, iD 3] 2] : List D) 0 (7 : Nat) 1 true ([D.sl [iD 3] 1, D.sl [iD 1, iD 2] 2, D.sl [iD 1, iD 2, iD 3, iD 4, iD 5, iD 6] 6, D.sl [iD 2, iD 1] 2, D.sl [iD 1, iD 2, iD 7, iD 8] 4, D.sl [iD 4] 1, D.sl [iD 1, iD 3] 2] : List D) (by rw [List.drop_zero, Nat.mul_one, List.take_of_length_le (by (simp only [qH, qE, uA, List.length_append, List.length_cons, List.length_nil, List.length_take, List.length_drop, List.length_replicate, List.length_set, List.length_map, List.length_reverse, Nat.mul_one] <;> omega))]) aS))) FzS.nil) FzG.nil ?_
 refine AW.ret ?_
 exact kC (.inr rfl) [] (P := (((kL oR) : List D) = [D.sl [iD 3] 1, D.sl [iD 1, iD 2] 2, D.sl [iD 1, iD 2, iD 3, iD 4, iD 5, iD 6] 6, D.sl [iD 2, iD 1] 2, D.sl [iD 1, iD 2, iD 7, iD 8] 4, D.sl [iD 4] 1, D.sl [iD 1, iD 3] 2]) ∧ (kG 7)) zk ⟨(by rfl), rfl⟩
theorem u18 (l : List Int) (hb : Byt l) : Fun 58 [.c (.ptr 0 0)] (kE [(0, some (95, .ds [D.sl (dI .u8 l) (List.length l)]))]) 1 (sV .i64 (yH l) (List.length (yH l))) (kE [(0, some (95, .ds [D.sl (dI .u8 (kD l 7)) (List.length (kD l 7))]))]) 1 := by
 refine Fun.mk (n := 8) Tryz.func58 rfl rfl (Nat.le_of_ble_eq_true rfl) ?_
 intro cx hcx
 refine kI [.no] True [(0, rV 0 0)] [(0, some (95, .ds [db l (List.length l)]))] 1 trivial ?_
 have hx1 : ((((((kA l 7) : Nat) : Int) < 7) ∨ ((kA l 7) = 0)) ∧ ((kA l 7) ≤ 255)) := uG l (7 : Int) (kZ : Byt l)
 have hx2 : (Byt (kD l 7)) := qL (7 : Int) (kZ : Byt l)
 have hx3 : ((List.length (List.getD oR (kA l 7) ([] : List Int))) ≤ 1000000) := MsW.at u4x _
 refine kI [.call [] (qJ (kL oR) 7) [] 0 [] none, .no, .call [0] (uV (kA l 7)) [(0, some (95, .ds [db (kD l 7) (List.length (kD l 7))]))] 1 [] none, .n (kA l 7), .d (dl (List.getD oR (kA l 7) ([] : List Int)) (List.length (List.getD oR (kA l 7) ([] : List Int)))), .no] ((_) ∧ (_) ∧ (kM (kA l 7 : Int)) ∧ ((kA l 7) < 7) ∧ ((List.drop (kA l 7) (kL oR))[0]? = some (dl (List.getD oR (kA l 7) ([] : List Int)) (List.length (List.getD oR (kA l 7) ([] : List Int)))))) [(2, sV .i64 (List.getD oR (kA l 7) ([] : List Int)) (List.length (List.getD oR (kA l 7) ([] : List Int))))] [(0, some (95, .ds [db (kD l 7) (List.length (kD l 7))]))] 1 ⟨(u3f), (uQ l 7 (kZ : Byt l)), rfl, zo, (yE _ _ (by show _ < 7; omega))⟩ ?_
 refine AW.ret ?_
 exact kC (.inr rfl) [] (P := (((dI .i64 (yH l)) : List D) = (dI .i64 (List.getD oR (kA l 7) ([] : List Int)))) ∧ (((List.length (yH l)) : Nat) = (List.length (List.getD oR (kA l 7) ([] : List Int)))) ∧ (kJ [db (kD l 7) (List.length (kD l 7))])) zk ⟨(by rfl), (by rfl), rfl⟩
abbrev c4 (l : List Int) (i : Nat) : BC := .ds [D.sl (dI .u8 (uN l i)) (List.length (uN l i))]
abbrev jH (l : List Int) (i : Nat) : BC := .ds [D.sl (dI .u8 (kD (uN l i) 2)) (List.length (kD (uN l i) 2))]
theorem u17 (sp : List Int) (n : Nat) (l : List Int) (hl : List.length sp = n * 2) (h1 : 1 ≤ n) (h2 : n ≤ 1000) (hb : Byt l) : Fun 123 [.c (.ptr 0 0), .c (.d (D.sl (dI .i64 sp) n))] (kE [(0, some (95, .ds [D.sl (dI .u8 l) (List.length l)]))]) 1 (.e (.agg [.d (D.sl (dI .i64 (fP (bB sp l n) (bE sp l n))) (vY (bB sp l n) (bE sp l n)))])) (kE [(0, some (95, .ds [D.sl (dI .u8 (y8 sp l n)) (List.length (y8 sp l n))]))]) 1 := by
 refine Fun.mk (n := 43) Tryz.func123 rfl rfl (Nat.le_of_ble_eq_true rfl) ?_
 intro cx hcx
 refine kI [.no] True [(0, rV 0 0), (1, sV .i64 sp n), (4, rV 1 0)] [(0, some (95, .ds [db l (List.length l)])), (1, some (56, .ds [qR]))] 2 trivial ?_
 refine kN [.no] True [(0, rV 0 0), (1, sV .i64 sp n), (4, rV 1 0), (5, nV)] trivial ?_
 refine AW.seq ?_
 refine kN [.no, .no, .no] True [(0, rV 0 0), (1, sV .i64 sp n), (4, rV 1 0), (5, nV), (10, sV .i64 sp n), (11, uV n), (12, iV 0)] trivial ?_
 refine AW.block ?_
 refine AW.adoptS 5 2 77 rfl ?_
 refine kU 1 hcx (fun (x : {x : Nat × Nat × List Int // match x with | (i, k, o) => (i ≤ n ∧ k ≤ i) ∧ (xV sp l i = o) ∧ (List.length o = k * 2)}) => match x with | ⟨(i, k, o), _⟩ => (⟨[(0, rV 0 0), (1, sV .i64 sp n), (4, rV 1 0), (5, oV 3 0 k 2), (10, sV .i64 sp n), (11, uV n), (12, uV i)], [(0, some (95, (c4 l i))), (1, some (56, .ds [qR])), (3, some (77, .ds (dI .i64 o)))], 4⟩ : ES)) (fun x => match x with | ⟨(i, k, o), _⟩ => n - i) ⟨((0 : Nat), (0 : Nat), (([] : List Int) : List Int)), ⟨zo, rfl, rfl⟩⟩ [(3, 2)] (P := (kG 0) ∧ (kJ (dI .i64 sp)) ∧ (kG n) ∧ (kG 0) ∧ (kG 0) ∧ (kG 0) ∧ (kJ (dI .i64 sp)) ∧ (kG n) ∧ (kM (n : Int)) ∧ (kM 0) ∧ (([db (uN l 0) (List.length (uN l 0))] : List D) = [db l (List.length l)]) ∧ (kJ [qR]) ∧ (((dI .i64 ([] : List Int)) : List D) = ([] : List D))) zk ⟨rfl, rfl, rfl, rfl, rfl, rfl, rfl, rfl, rfl, rfl, (by rfl), rfl, (by rfl)⟩ ?_
 rintro ⟨⟨i, k, o⟩, hinv0⟩
 obtain ⟨hi, hS, ho⟩ : (i ≤ n ∧ k ≤ i) ∧ (xV sp l i = o) ∧ (List.length o = k * 2) := hinv0
 refine qN (l := [(0, rV 0 0), (1, sV .i64 sp n), (4, rV 1 0), (5, oV 3 0 k 2), (10, sV .i64 sp n), (11, uV n), (12, uV i)]) (g := [(0, some (95, (c4 l i))), (1, some (56, .ds [qR])), (3, some (77, .ds (dI .i64 o)))]) (nx := 4) rfl rfl rfl ?_
 by_cases hx1 : (((i : Nat) : Int) < ((n : Nat) : Int))
 ·refine kI [.b true] (((i : Int) < (n : Int))) [(0, rV 0 0), (1, sV .i64 sp n), (4, rV 1 0), (5, oV 3 0 k 2), (10, sV .i64 sp n), (11, uV n), (12, uV i), (13, bV true)] [(0, some (95, (c4 l i))), (1, some (56, .ds [qR])), (3, some (77, .ds (dI .i64 o)))] 4 zo ?_
  refine AW.seq ?_
  refine yW ?_
  refine AW.seq ?_
  refine AW.block ?_
  refine kI [.n i, .ds [iD (List.getD sp (i * 2) 0), iD (List.getD sp ((i * 2) + 1) 0)], .no, .no] ((kM (i : Int)) ∧ (i < n) ∧ (List.take 2 (List.drop (i * 2) (dI .i64 sp)) = [iD (List.getD sp (i * 2) 0), iD (List.getD sp ((i * 2) + 1) 0)]) ∧ (([iD (List.getD sp (i * 2) 0), iD (List.getD sp ((i * 2) + 1) 0)] : List D).length = 2)) [(0, rV 0 0), (1, sV .i64 sp n), (4, rV 1 0), (5, oV 3 0 k 2), (7, rV 4 0), (10, sV .i64 sp n), (11, uV n), (12, uV i)] [(0, some (95, (c4 l i))), (1, some (56, .ds [qR])), (3, some (77, .ds (dI .i64 o))), (4, some (77, .ds [iD (List.getD sp (i * 2) 0), iD (List.getD sp ((i * 2) + 1) 0)]))] 5 ⟨rfl, zo, (yN .i64 sp (i * 2) 2 zo), rfl⟩ ?_
  by_cases hx4 : ((((kA (uN l i) 2) : Nat) : Int) = 1)
  ·have hx5 : ((((((kA (uN l i) 2) : Nat) : Int) < 2) ∨ ((kA (uN l i) 2) = 0)) ∧ ((kA (uN l i) 2) ≤ 255)) := uG (uN l i) (2 : Int) ((aK (kZ : Byt l) _))
   have hx6 : (Byt (kD (uN l i) 2)) := qL (2 : Int) ((aK (kZ : Byt l) _))
   refine kI [.no, .call [0] (uV (kA (uN l i) 2)) [(0, some (95, (jH l i)))] 1 [] none, .b true] ((_) ∧ (((kA (uN l i) 2 : Int) = 1))) [(0, rV 0 0), (1, sV .i64 sp n), (4, rV 1 0), (5, oV 3 0 k 2), (7, rV 4 0), (10, sV .i64 sp n), (11, uV n), (12, uV i), (18, bV true)] [(0, some (95, (jH l i))), (1, some (56, .ds [qR])), (3, some (77, .ds (dI .i64 o))), (4, some (77, .ds [iD (List.getD sp (i * 2) 0), iD (List.getD sp ((i * 2) + 1) 0)]))] 5 ⟨(uQ (uN l i) 2 (aK (kZ : Byt l) _)), zo⟩ ?_
   refine zt ?_
   refine aD [.no, .no, .no, .ap none (k + 1) (dI .i64 (o ++ ([(List.getD sp (i * 2) 0), (List.getD sp ((i * 2) + 1) 0)] : List Int))), .no] (([iD (List.getD sp (i * 2) 0), iD (List.getD sp ((i * 2) + 1) 0)].length = 1 * 2) ∧ (((dI .i64 o) : List D).length = k * 2) ∧ ((k + 1) * 16 ≤ 140737488355328) ∧ (k + 1 = (k + 1)) ∧ (((dI .i64 o) : List D) ++ [iD (List.getD sp (i * 2) 0), iD (List.getD sp ((i * 2) + 1) 0)] = (dI .i64 (o ++ ([(List.getD sp (i * 2) 0), (List.getD sp ((i * 2) + 1) 0)] : List Int))))) [(0, rV 0 0), (1, sV .i64 sp n), (4, rV 1 0), (5, oV 6 0 (k + 1) 2), (10, sV .i64 sp n), (11, uV n), (12, uV i)] [(0, some (95, (jH l i))), (1, some (56, .ds [qR])), (6, some (77, .ds (dI .i64 (o ++ ([(List.getD sp (i * 2) 0), (List.getD sp ((i * 2) + 1) 0)] : List Int)))))] 7 ⟨aS, aS, zo, zo, (aN .i64 o ([(List.getD sp (i * 2) 0), (List.getD sp ((i * 2) + 1) 0)] : List Int))⟩ ?_
   refine uJ [.w, .no] (uZ ((i : Int) + 1)) [(0, rV 0 0), (1, sV .i64 sp n), (4, rV 1 0), (5, oV 6 0 (k + 1) 2), (10, sV .i64 sp n), (11, uV n), (12, iV (↑i + 1))] ⟨by omega, by omega⟩ ?_
   exact kX ⟨(((i + 1) : Nat), ((k + 1) : Nat), ((o ++ ([(List.getD sp (i * 2) 0), (List.getD sp ((i * 2) + 1) 0)] : List Int)) : List Int)), ⟨zo, (by exact u7c hS zo), (by (simp only [qH, qE, List.length_append, List.length_cons, List.length_nil] <;> omega))⟩⟩ [(3, 6)] (P := (kG 0) ∧ (kJ (dI .i64 sp)) ∧ (kG n) ∧ (kG 0) ∧ (kG 0) ∧ (kG (k + 1)) ∧ (kJ (dI .i64 sp)) ∧ (kG n) ∧ (kM (n : Int)) ∧ (vX i) ∧ (([db (uN l (i + 1)) (List.length (uN l (i + 1)))] : List D) = [db (kD (uN l i) 2) (List.length (kD (uN l i) 2))]) ∧ (kJ [qR]) ∧ (kJ (dI .i64 (o ++ ([(List.getD sp (i * 2) 0), (List.getD sp ((i * 2) + 1) 0)] : List Int))))) zk ⟨rfl, rfl, rfl, rfl, rfl, rfl, rfl, rfl, rfl, (by rfl), (by rfl), rfl, rfl⟩ (show n - (i + 1) < n - i from zo)
  ·have hx7 : ((((((kA (uN l i) 2) : Nat) : Int) < 2) ∨ ((kA (uN l i) 2) = 0)) ∧ ((kA (uN l i) 2) ≤ 255)) := uG (uN l i) (2 : Int) ((aK (kZ : Byt l) _))
   have hx8 : (Byt (kD (uN l i) 2)) := qL (2 : Int) ((aK (kZ : Byt l) _))
   refine kI [.no, .call [0] (uV (kA (uN l i) 2)) [(0, some (95, (jH l i)))] 1 [] none, .b false] ((_) ∧ (¬ ((kA (uN l i) 2 : Int) = 1))) [(0, rV 0 0), (1, sV .i64 sp n), (4, rV 1 0), (5, oV 3 0 k 2), (7, rV 4 0), (10, sV .i64 sp n), (11, uV n), (12, uV i), (18, bV false)] [(0, some (95, (jH l i))), (1, some (56, .ds [qR])), (3, some (77, .ds (dI .i64 o))), (4, some (77, .ds [iD (List.getD sp (i * 2) 0), iD (List.getD sp ((i * 2) + 1) 0)]))] 5 ⟨(uQ (uN l i) 2 (aK (kZ : Byt l) _)), zo⟩ ?_
   refine q8 ?_
   refine aD [.w, .no] (uZ ((i : Int) + 1)) [(0, rV 0 0), (1, sV .i64 sp n), (4, rV 1 0), (5, oV 3 0 k 2), (10, sV .i64 sp n), (11, uV n), (12, iV (↑i + 1))] [(0, some (95, (jH l i))), (1, some (56, .ds [qR])), (3, some (77, .ds (dI .i64 o)))] 5 ⟨by omega, by omega⟩ ?_
   exact kX ⟨(((i + 1) : Nat), (k : Nat), (o : List Int)), ⟨zo, (by exact u7d hS zo), (by assumption)⟩⟩ [] (P := (kG 0) ∧ (kJ (dI .i64 sp)) ∧ (kG n) ∧ (kG 0) ∧ (kG 0) ∧ (kG k) ∧ (kJ (dI .i64 sp)) ∧ (kG n) ∧ (kM (n : Int)) ∧ (vX i) ∧ (([db (uN l (i + 1)) (List.length (uN l (i + 1)))] : List D) = [db (kD (uN l i) 2) (List.length (kD (uN l i) 2))]) ∧ (kJ [qR]) ∧ (kJ (dI .i64 o))) zk ⟨rfl, rfl, rfl, rfl, rfl, rfl, rfl, rfl, rfl, (by rfl), (by rfl), rfl, rfl⟩ (show n - (i + 1) < n - i from zo)
 ·refine kI [.b false] (¬ ((i : Int) < (n : Int))) [(0, rV 0 0), (1, sV .i64 sp n), (4, rV 1 0), (5, oV 3 0 k 2), (10, sV .i64 sp n), (11, uV n), (12, uV i), (13, bV false)] [(0, some (95, (c4 l i))), (1, some (56, .ds [qR])), (3, some (77, .ds (dI .i64 o)))] 4 zo ?_
  refine AW.seq ?_
  refine zf ?_
  refine AW.exit ?_
  refine AW.seq ?_
  by_cases hx9 : (((k : Nat) : Int) = 0)
  ·refine kI [.no, .no, .b true] (((k : Int) = 0)) [(0, rV 0 0), (1, sV .i64 sp n), (4, rV 1 0), (5, oV 3 0 k 2), (26, bV true)] [(0, some (95, (c4 l i))), (1, some (56, .ds [qR])), (3, some (77, .ds (dI .i64 o)))] 4 zo ?_
   refine zt ?_
   have hx10 : ((((((kA (uN l i) ((n : Nat) : Int)) : Nat) : Int) < ((n : Nat) : Int)) ∨ ((kA (uN l i) ((n : Nat) : Int)) = 0)) ∧ ((kA (uN l i) ((n : Nat) : Int)) ≤ 255)) := uG (uN l i) ((n : Nat) : Int) ((aK (kZ : Byt l) _))
   have hx11 : (Byt (kD (uN l i) ((n : Nat) : Int))) := qL ((n : Nat) : Int) ((aK (kZ : Byt l) _))
   refine aD (kT 5 [.call [0] (uV (kA (uN l i) (n : Int))) [(0, some (95, .ds [db (kD (uN l i) (n : Int)) (List.length (kD (uN l i) (n : Int)))]))] 1 [] none, .n (kA (uN l i) (n : Int)), .ds [iD (List.getD sp ((kA (uN l i) (n : Int)) * 2) 0), iD (List.getD sp (((kA (uN l i) (n : Int)) * 2) + 1) 0)], .no, .ap none (k + 1) (dI .i64 (o ++ ([(List.getD sp ((kA (uN l i) (n : Int)) * 2) 0), (List.getD sp (((kA (uN l i) (n : Int)) * 2) + 1) 0)] : List Int))), .no]) ((_) ∧ (kM (((kA (uN l i) (n : Int)) : Nat) : Int)) ∧ ((kA (uN l i) (n : Int)) < n) ∧ (List.take 2 (List.drop ((kA (uN l i) (n : Int)) * 2) (dI .i64 sp)) = [iD (List.getD sp ((kA (uN l i) (n : Int)) * 2) 0), iD (List.getD sp (((kA (uN l i) (n : Int)) * 2) + 1) 0)]) ∧ (([iD (List.getD sp ((kA (uN l i) (n : Int)) * 2) 0), iD (List.getD sp (((kA (uN l i) (n : Int)) * 2) + 1) 0)] : List D).length = 2) ∧ ([iD (List.getD sp ((kA (uN l i) (n : Int)) * 2) 0), iD (List.getD sp (((kA (uN l i) (n : Int)) * 2) + 1) 0)].length = 1 * 2) ∧ (((dI .i64 o) : List D).length = k * 2) ∧ ((k + 1) * 16 ≤ 140737488355328) ∧ (k + 1 = (k + 1)) ∧ (((dI .i64 o) : List D) ++ [iD (List.getD sp ((kA (uN l i) (n : Int)) * 2) 0), iD (List.getD sp (((kA (uN l i) (n : Int)) * 2) + 1) 0)] = (dI .i64 (o ++ ([(List.getD sp ((kA (uN l i) (n : Int)) * 2) 0), (List.getD sp (((kA (uN l i) (n : Int)) * 2) + 1) 0)] : List Int))))) [(4, rV 1 0), (5, oV 5 0 (k + 1) 2)] [(0, some (95, .ds [db (kD (uN l i) ↑n) (List.length (kD (uN l i) ↑n))])), (1, some (56, .ds [qR])), (5, some (77, .ds (dI .i64 (o ++ ([(List.getD sp ((kA (uN l i) ↑n) * 2) 0), (List.getD sp (((kA (uN l i) ↑n) * 2) + 1) 0)] : List Int)))))] 6 ⟨(uQ (uN l i) (n : Int) (aK (kZ : Byt l) _)), rfl, zo, (yN .i64 sp ((kA (uN l i) (n : Int)) * 2) 2 zo), rfl, aS, aS, zo, zo, (aN .i64 o ([(List.getD sp ((kA (uN l i) (n : Int)) * 2) 0), (List.getD sp (((kA (uN l i) (n : Int)) * 2) + 1) 0)] : List Int))⟩ ?_
   refine AW.freeze 5 (l' := [(4, rV 1 0), (5, sV .i64 (o ++ ([(List.getD sp ((kA (uN l i) (n : Int)) * 2) 0), (List.getD sp (((kA (uN l i) (n : Int)) * 2) + 1) 0)] : List Int)) (k + 1))]) (g' := [(0, some (95, .ds [db (kD (uN l i) (n : Int)) (List.length (kD (uN l i) (n : Int)))])), (1, some (56, .ds [qR]))]) rfl (FzS.cons rfl (.same _) (FzS.cons rfl (.e (.c (@FzC.own 5 ((dI .i64 (o ++ ([(List.getD sp ((kA (uN l i) (n : Int)) * 2) 0), (List.getD sp (((kA (uN l i) (n : Int)) * 2) + 1) 0)] : List Int))) : List D) 0 (k + 1) 2 true ((dI .i64 (o ++ ([(List.getD sp ((kA (uN l i) (n : Int)) * 2) 0), (List.getD sp (((kA (uN l i) (n : Int)) * 2) + 1) 0)] : List Int))) : List D) (by rw [List.drop_zero, List.take_of_length_le (by (simp only [qH, qE, uA, List.length_append, List.length_cons, List.length_nil, List.length_take, List.length_drop, List.length_replicate, List.length_set, List.length_map, List.length_reverse, Nat.mul_one] <;> omega))]) aS))) FzS.nil)) (qT rfl rfl (qT rfl rfl FzG.nil)) ?_
   have hx12 : ((List.length (fP (o ++ ([(List.getD sp ((kA (uN l i) ((n : Nat) : Int)) * 2) 0), (List.getD sp (((kA (uN l i) ((n : Nat) : Int)) * 2) + 1) 0)] : List Int)) (k + 1))) = ((vY (o ++ ([(List.getD sp ((kA (uN l i) ((n : Nat) : Int)) * 2) 0), (List.getD sp (((kA (uN l i) ((n : Nat) : Int)) * 2) + 1) 0)] : List Int)) (k + 1)) * 2)) := lU (o ++ ([(List.getD sp ((kA (uN l i) ((n : Nat) : Int)) * 2) 0), (List.getD sp (((kA (uN l i) ((n : Nat) : Int)) * 2) + 1) 0)] : List Int)) (k + 1)
   have hx13 : ((((0 : Int) ≤ (nY (o ++ ([(List.getD sp ((kA (uN l i) ((n : Nat) : Int)) * 2) 0), (List.getD sp (((kA (uN l i) ((n : Nat) : Int)) * 2) + 1) 0)] : List Int)) (k + 1))) ∧ ((nY (o ++ ([(List.getD sp ((kA (uN l i) ((n : Nat) : Int)) * 2) 0), (List.getD sp (((kA (uN l i) ((n : Nat) : Int)) * 2) + 1) 0)] : List Int)) (k + 1)) ≤ 3)) ∧ ((vY (o ++ ([(List.getD sp ((kA (uN l i) ((n : Nat) : Int)) * 2) 0), (List.getD sp (((kA (uN l i) ((n : Nat) : Int)) * 2) + 1) 0)] : List Int)) (k + 1)) ≤ 64)) := rH (o ++ ([(List.getD sp ((kA (uN l i) ((n : Nat) : Int)) * 2) 0), (List.getD sp (((kA (uN l i) ((n : Nat) : Int)) * 2) + 1) 0)] : List Int)) (k + 1)
   refine kI (.no :: .call [] (.tup [.agg [.d (dl (fP (o ++ ([(List.getD sp ((kA (uN l i) (n : Int)) * 2) 0), (List.getD sp (((kA (uN l i) (n : Int)) * 2) + 1) 0)] : List Int)) (k + 1)) (vY (o ++ ([(List.getD sp ((kA (uN l i) (n : Int)) * 2) 0), (List.getD sp (((kA (uN l i) (n : Int)) * 2) + 1) 0)] : List Int)) (k + 1)))], iE (nY (o ++ ([(List.getD sp ((kA (uN l i) (n : Int)) * 2) 0), (List.getD sp (((kA (uN l i) (n : Int)) * 2) + 1) 0)] : List Int)) (k + 1))]) [] 0 [] none :: kT 6 []) _ [(4, rV 1 0), (8, rV 6 0)] [(0, some (95, .ds [db (kD (uN l i) ↑n) (List.length (kD (uN l i) ↑n))])), (1, some (56, .ds [qR])), (6, some (56, .ds [dl (fP (o ++ ([(List.getD sp ((kA (uN l i) ↑n) * 2) 0), (List.getD sp (((kA (uN l i) ↑n) * 2) + 1) 0)] : List Int)) (k + 1)) (vY (o ++ ([(List.getD sp ((kA (uN l i) ↑n) * 2) 0), (List.getD sp (((kA (uN l i) ↑n) * 2) + 1) 0)] : List Int)) (k + 1))]))] 7 (k1i (o ++ ([(List.getD sp ((kA (uN l i) (n : Int)) * 2) 0), (List.getD sp (((kA (uN l i) (n : Int)) * 2) + 1) 0)] : List Int)) (k + 1) (by (simp only [qH, qE, List.length_append, List.length_cons, List.length_nil, List.length_take, List.length_drop, List.length_replicate, List.length_set] <;> omega)) zo) ?_
   refine kI [.no, .no] True [(4, rV 1 0)] [(0, some (95, .ds [db (kD (uN l i) ↑n) (List.length (kD (uN l i) ↑n))])), (1, some (56, .ds [dl (fP (o ++ ([(List.getD sp ((kA (uN l i) ↑n) * 2) 0), (List.getD sp (((kA (uN l i) ↑n) * 2) + 1) 0)] : List Int)) (k + 1)) (vY (o ++ ([(List.getD sp ((kA (uN l i) ↑n) * 2) 0), (List.getD sp (((kA (uN l i) ↑n) * 2) + 1) 0)] : List Int)) (k + 1))]))] 7 trivial ?_
   obtain ⟨hz1, hz2, hz3⟩ := u7l hS (show i = n by omega) ho zo
   refine AW.ret ?_
   exact kC (.inr rfl) [] (P := (((dI .i64 (fP (bB sp l n) (bE sp l n))) : List D) = (dI .i64 (fP (o ++ ([(List.getD sp ((kA (uN l i) (n : Int)) * 2) 0), (List.getD sp (((kA (uN l i) (n : Int)) * 2) + 1) 0)] : List Int)) (k + 1)))) ∧ (((vY (bB sp l n) (bE sp l n)) : Nat) = (vY (o ++ ([(List.getD sp ((kA (uN l i) (n : Int)) * 2) 0), (List.getD sp (((kA (uN l i) (n : Int)) * 2) + 1) 0)] : List Int)) (k + 1))) ∧ (([db (y8 sp l n) (List.length (y8 sp l n))] : List D) = [db (kD (uN l i) (n : Int)) (List.length (kD (uN l i) (n : Int)))])) zk ⟨(by (rw [hz1, hz3]; done)), (by (rw [hz1, hz3]; done)), (by (rw [hz2]; done))⟩
  ·refine kI [.no, .no, .b false] (¬ ((k : Int) = 0)) [(0, rV 0 0), (1, sV .i64 sp n), (4, rV 1 0), (5, oV 3 0 k 2), (26, bV false)] [(0, some (95, (c4 l i))), (1, some (56, .ds [qR])), (3, some (77, .ds (dI .i64 o)))] 4 zo ?_
   refine q8 ?_
   refine AW.freeze 3 (l' := [(0, rV 0 0), (1, sV .i64 sp n), (4, rV 1 0), (5, sV .i64 o k), (26, bV false)]) (g' := [(0, some (95, (c4 l i))), (1, some (56, .ds [qR]))]) rfl (FzS.cons rfl (.same _) (FzS.cons rfl (.same _) (FzS.cons rfl (.same _) (FzS.cons rfl (.e (.c (@FzC.own 3 ((dI .i64 o) : List D) 0 k 2 true ((dI .i64 o) : List D) (by rw [List.drop_zero, List.take_of_length_le (by (simp only [qH, qE, uA, List.length_append, List.length_cons, List.length_nil, List.length_take, List.length_drop, List.length_replicate, List.length_set, List.length_map, List.length_reverse, Nat.mul_one] <;> omega))]) aS))) (FzS.cons rfl (.same _) FzS.nil))))) (qT rfl rfl (qT rfl rfl FzG.nil)) ?_
   have hx14 : ((List.length (fP o k)) = ((vY o k) * 2)) := lU o k
   have hx15 : ((((0 : Int) ≤ (nY o k)) ∧ ((nY o k) ≤ 3)) ∧ ((vY o k) ≤ 64)) := rH o k
   refine kI (.no :: .call [] (.tup [.agg [.d (dl (fP o k) (vY o k))], iE (nY o k)]) [] 0 [] none :: kT 6 []) _ [(4, rV 1 0), (8, rV 4 0)] [(0, some (95, (c4 l i))), (1, some (56, .ds [qR])), (4, some (56, .ds [dl (fP o k) (vY o k)]))] 5 (k1i o k zo zo) ?_
   refine kI [.no, .no] True [(4, rV 1 0)] [(0, some (95, (c4 l i))), (1, some (56, .ds [dl (fP o k) (vY o k)]))] 5 trivial ?_
   obtain ⟨hz1, hz2, hz3⟩ := u7k hS (show i = n by omega) ho zo
   refine AW.ret ?_
   exact kC (.inr rfl) [] (P := (((dI .i64 (fP (bB sp l n) (bE sp l n))) : List D) = (dI .i64 (fP o k))) ∧ (((vY (bB sp l n) (bE sp l n)) : Nat) = (vY o k)) ∧ (([db (y8 sp l n) (List.length (y8 sp l n))] : List D) = [db (uN l i) (List.length (uN l i))])) zk ⟨(by (rw [hz1, hz3]; done)), (by (rw [hz1, hz3]; done)), (by (rw [hz2]; done))⟩
end Go.Proofs.YtcfmjpnffembpaaGreat
