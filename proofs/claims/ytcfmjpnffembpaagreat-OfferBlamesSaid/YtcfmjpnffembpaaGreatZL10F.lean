/- Boxes out of dice. No statement is proved here. -/
import Derived.Test.YtcfmjpnffembpaaGreatZL10E
namespace Go.Proofs.YtcfmjpnffembpaaGreat
open Go.ChangeShapes Go.WideShapes Go.ChangeAt Go.RowKit
open List renaming drop → ka3, getD → ka1, getD_eq_getElem?_getD → ka7, getElem?_eq_getElem → ka8, length → ka0, length_append → ka6, length_cons → kb0, length_drop → kb3, length_map → kc5, length_nil → kb1, length_replicate → kb4, length_reverse → kc0, length_set → kb8, length_take → kb2, take → ka5, take_of_length_le → kb7
open Nat renaming le_trans → ke2, mul_one → kc6
set_option linter.unusedVariables false
set_option linter.unusedSimpArgs false
set_option maxHeartbeats 4000000
set_option maxRecDepth 100000
theorem u23 (xs : List (List Int)) (i : Nat) (h : i < xs.length) : (kI xs)[i]? = some (D.sl (dI .i64 (ka1 xs i [])) (ka1 xs i []).length) := by
 have := vQ xs i h
 rw [List.getElem?_drop, Nat.add_zero] at this; exact this
def kbV (l : List Int) : Int := IntKind.i64.wrap (1 * (((2 ^ (1 + (kD l 7))) : Nat) : Int))
def orI (a b : Int) : Int := qG .or .i64 a b
def eE (l : List Int) : Nat → List Int
 | 0 => l
 | i + 1 => kB (eE l i) 7
def knK (l : List Int) (k : Int) : Nat → Int
 | 0 => k
 | i + 1 => orI (knK l k i) (kbV (eE l i))
theorem aF {l : List Int} (h : Byt l) : ∀ i, Byt (eE l i)
 | 0 => h
 | i + 1 => qH _ (aF h i)
def thE (x m : List Int) : Bool := decide (ka0 x = ka0 m ∧ ka1 x 0 0 = ka1 m 0 0)
def p9 (ms : List (List Int)) (m : List Int) : Bool := ms.any fun x => thE x m
theorem v1v (ms : List (List Int)) (m : List Int) : p9 (ka5 0 ms) m = false := rfl
theorem tO {ms : List (List Int)} {m : List Int} {j : Nat} (h : j < ms.length) : p9 (ka5 (j + 1) ms) m = (p9 (ka5 j ms) m || thE (ka1 ms j []) m) := by
 unfold p9
 rw [ka7, ka8 h, List.take_succ_eq_append_getElem h, List.any_append]
 simp
theorem u1k {ms : List (List Int)} {m : List Int} {j : Nat} (h : j < ms.length) (h1 : p9 (ka5 j ms) m = true) : p9 (ka5 (j + 1) ms) m = true := by
 rw [tO h, h1]; rfl
theorem u1m {ms : List (List Int)} {m : List Int} {j : Nat} (h : j < ms.length) (h1 : ka0 (ka1 ms j []) = ka0 m ∧ ka1 (ka1 ms j []) 0 0 = ka1 m 0 0) : p9 (ka5 (j + 1) ms) m = true := by
 rw [tO h, show thE (ka1 ms j []) m = true from decide_eq_true h1, Bool.or_true]
theorem u1l {ms : List (List Int)} {m : List Int} {j : Nat} (h : j < ms.length) (h0 : p9 (ka5 j ms) m = false) (h1 : ¬ (ka0 (ka1 ms j []) = ka0 m ∧ ka1 (ka1 ms j []) 0 0 = ka1 m 0 0)) : p9 (ka5 (j + 1) ms) m = false := by
 rw [tO h, h0, show thE (ka1 ms j []) m = false from decide_eq_false h1]; rfl
def rB (l : List Int) : Nat → List Int
 | 0 => l
 | i + 1 => kB (rB l i) 7
def rA (l : List Int) : Nat → List (List Int)
 | 0 => []
 | i + 1 => if p9 (rA l i) (yG (rB l i)) = true then rA l i else rA l i ++ [yG (rB l i)]
theorem j7 {l : List Int} (h : Byt l) : ∀ i, Byt (rB l i)
 | 0 => h
 | i + 1 => qH _ (j7 h i)
theorem u9r {l : List Int} {i : Nat} {ms : List (List Int)} (h : rA l i = ms) (h1 : p9 ms (yG (rB l i)) = true) : rA l (i + 1) = ms := by
 subst h; exact if_pos h1
theorem u9u {l : List Int} {i : Nat} {ms : List (List Int)} (h : rA l i = ms) (h1 : p9 ms (yG (rB l i)) = false) : rA l (i + 1) = ms ++ [yG (rB l i)] := by
 subst h; exact if_neg (by rw [h1]; decide)
theorem v2k {l : List Int} {k : Int} {i : Nat} {y x : Int} (h : knK l k i = y) (hx : x = orI y (kbV (eE l i))) : knK l k (i + 1) = x := by
 subst h; rw [hx]; rfl
theorem tP {ms : List (List Int)} {m : List Int} {j c : Nat} {f : Bool} (hc : ms.length = c) (hj : c ≤ j) (h : p9 (ka5 j ms) m = f) : p9 ms m = f := by
 rw [kb7 (by omega)] at h; exact h
theorem k7l (l : List Int) : ∀ i, MsW (rA l i)
 | 0 => MsW.nil
 | i + 1 => by
  rw [rA]; split
  ·exact k7l l i
  ·exact (k7l l i).snoc (ke2 (wK _) (by omega))
theorem k25 (l : List Int) : ∀ i, ka0 (rA l i) ≤ i
 | 0 => Nat.le_refl _
 | i + 1 => by
  have := k25 l i
  rw [rA]; split
  ·omega
  ·rw [ka6, List.length_singleton]; omega
def bo1 (l : List Int) : List Int := kB (kB l 7) 3
def bo2 (l : List Int) : List Int := eE (bo1 l) (kD (kB l 7) 3)
def rtT : List Int := [44100, 44100, 48000, 48000, 8000, 8000, 32000, 50000, 96000, 192000]
def szT : List Int := [16, 64, 64, 1024, 2048, 2048, 1, 65536]
def bo3 (l : List Int) : List Int := yW rtT (bo2 l) 5
def bo4 (l : List Int) : List Int := yW szT (bo3 l) 4
def bo5 (l : List Int) : List Int := kB (bo4 l) 3
def boN (l : List Int) : Nat := 1 + kD (bo4 l) 3
def boD (l : List Int) : List Int := rB (bo5 l) (boN l)
def boK (l : List Int) : Int := knK (bo1 l) (kbV l) (kD (kB l 7) 3)
def boR (l : List Int) : List Int := fM (aZ rtT (bo2 l) 5) (aU rtT (bo2 l) 5)
def zE (l : List Int) : Nat := vS (aZ rtT (bo2 l) 5) (aU rtT (bo2 l) 5)
def boS (l : List Int) : List Int := fM (aZ szT (bo3 l) 4) (aU szT (bo3 l) 4)
def zD (l : List Int) : Nat := vS (aZ szT (bo3 l) 4) (aU szT (bo3 l) 4)
def nT (l : List Int) : List (List Int) := rA (bo5 l) (boN l)
def MsN (xs : List (List Int)) : Prop := ∀ l ∈ xs, 1 ≤ ka0 l
theorem MsN.nil : MsN [] := fun l h => by cases h
theorem MsN.snoc {xs : List (List Int)} {l : List Int} (h : MsN xs) (hl : 1 ≤ ka0 l) : MsN (xs ++ [l]) := fun m hm => (List.mem_append.1 hm).elim (h m) fun hm => by
 rw [List.mem_singleton.1 hm]; exact hl
theorem MsN.at {xs : List (List Int)} (h : MsN xs) {i : Nat} (hi : i < xs.length) : 1 ≤ ka0 (ka1 xs i []) := by
 rw [ka7, ka8 hi]; exact h _ (List.getElem_mem hi)
attribute [local irreducible] aZ yW aU fM vS kD kB yG p9
abbrev qZ := ([44100, 44100, 48000, 48000, 8000, 8000, 32000, 50000, 96000, 192000] : List Int)
abbrev qY (l : List Int) := eE (kB (kB l 7) 3) (kD (kB l 7) 3)
abbrev kS (l : List Int) := yW qZ (qY l) 5
abbrev kT := ([16, 64, 64, 1024, 2048, 2048, 1, 65536] : List Int)
abbrev yM (l : List Int) := kB (yW kT (kS l) 4) 3
abbrev kV (l : List Int) (i2 : Nat) := rB (yM l) i2
abbrev vN (l : List Int) := fM (aZ qZ (qY l) 5) (aU qZ (qY l) 5)
abbrev vY (l : List Int) := fM (aZ kT (kS l) 4) (aU kT (kS l) 4)
theorem dQ {p : Prop} (h : p := by first | omega | assumption | simp) : p := h
theorem eP {p : Prop} (h : p := by first | rfl | omega | assumption | (simp; done) | (simp; omega)) : p := h
theorem i4 {p : Prop} (h : p := by first | omega | (show _ < _; simp; omega)) : p := h
theorem eQ {p : Prop} (h : p := by first | omega | (simp only [qC, qB, qQ, ka6, kb0, kb1, kb2, kb3, kb4, kb8, kc5, kc0, kc6] <;> omega) | rfl) : p := h
theorem oM {p : Prop} (h : p := by first | rfl | assumption | simp) : p := h
abbrev aL (y : Int) (l : List Int) (q : Nat) : BC := .cs [iC y, .d (D.sl (dI .i64 (vN l)) (vS (aZ qZ (qY l) 5) (aU qZ (qY l) 5))), .own 6 0 q 1 true, .d (D.sl (dI .i64 (vY l)) (vS (aZ kT (kS l) 4) (aU kT (kS l) 4)))]
abbrev u1 : BC := .ds [iD 0, D.lit (.slice none 0 0), D.lit (.slice none 0 0), D.lit (.slice none 0 0)]
abbrev aD (l : List Int) (i2 : Nat) : BC := .ds [D.sl (dI .u8 (kB (kV l i2) 7)) (ka0 (kB (kV l i2) 7))]
abbrev nZ (l : List Int) (i : Nat) : BC := .ds [D.sl (dI .u8 (eE (kB (kB l 7) 3) i)) (ka0 (eE (kB (kB l 7) 3) i))]
abbrev nY (y : Int) : BC := .ds [iD y, D.lit (.slice none 0 0), D.lit (.slice none 0 0), D.lit (.slice none 0 0)]
theorem v1q (l : List Int) (hb : Byt l) : Fun 79 [.c (.ptr 0 0)] (kH [(0, some (95, .ds [D.sl (dI .u8 l) (ka0 l)]))]) 1 (.e (.agg [iC (boK l), .d (D.sl (dI .i64 (boR l)) (zE l)), .d (D.sl (kI (nT l)) (ka0 (nT l))), .d (D.sl (dI .i64 (boS l)) (zD l))])) (kH [(0, some (95, .ds [D.sl (dI .u8 (boD l)) (ka0 (boD l))]))]) 1 := by
 refine Fun.mk (n := 89) Tryz.func79 rfl rfl (Nat.le_of_ble_eq_true rfl) ?_
 intro cx hcx
 refine kK [.no] True [(0, rV 0 0), (2, rV 1 0)] [(0, some (95, .ds [db l (ka0 l)])), (1, some (59, u1))] 2 trivial ?_
 have hx1 : ((((((kD l 7) : Nat) : Int) < 7) ∨ ((kD l 7) = 0)) ∧ ((kD l 7) ≤ 255)) := qP l (7 : Int) (qD : Byt l)
 have hx2 : (Byt (kB l 7)) := qH (7 : Int) (qD : Byt l)
 refine kK [.no, .call [0] (uV (kD l 7)) [(0, some (95, .ds [db (kB l 7) (ka0 (kB l 7))]))] 1 [] none, .w, .n2 (1 + (kD l 7)) 0, .no, .no, .no] ((_) ∧ ((-9223372036854775808) ≤ (1 + (kD l 7 : Int)) ∧ (1 + (kD l 7 : Int)) ≤ 9223372036854775807) ∧ (((1 + (kD l 7 : Int)) : Int) = (((1 + (kD l 7)) : Nat) : Int)) ∧ ((1 + (kD l 7)) ≤ 64)) [(0, rV 0 0), (2, rV 1 0), (3, rV 2 0)] [(0, some (95, .ds [db (kB l 7) (ka0 (kB l 7))])), (1, some (59, u1)), (2, some (59, .ds [iD (IntKind.i64.wrap (1 * (((2 ^ (1 + (kD l 7))) : Nat) : Int))), qT, qT, qT]))] 3 ⟨(uS l 7 (qD : Byt l)), ⟨by omega, by omega⟩, (by first | rfl | omega), zo⟩ ?_
 refine AW.seq ?_
 have hx3 : ((((((kD (kB l 7) 3) : Nat) : Int) < 3) ∨ ((kD (kB l 7) 3) = 0)) ∧ ((kD (kB l 7) 3) ≤ 255)) := qP (kB l 7) (3 : Int) (qD : Byt (kB l 7))
 have hx4 : (Byt (kB (kB l 7) 3)) := qH (3 : Int) (qD : Byt (kB l 7))
 refine kK [.no, .call [0] (uV (kD (kB l 7) 3)) [(0, some (95, .ds [db (kB (kB l 7) 3) (ka0 (kB (kB l 7) 3))]))] 1 [] none, .no] _ [(0, rV 0 0), (2, rV 1 0), (3, rV 2 0), (4, uV (kD (kB l 7) 3))] [(0, some (95, .ds [db (kB (kB l 7) 3) (ka0 (kB (kB l 7) 3))])), (1, some (59, u1)), (2, some (59, .ds [iD (IntKind.i64.wrap (1 * (((2 ^ (1 + (kD l 7))) : Nat) : Int))), qT, qT, qT]))] 3 (uS (kB l 7) 3 (qD : Byt (kB l 7))) ?_
 refine AW.block ?_
 refine kY 1 hcx (fun (x : {x : Nat × Int // match x with | (i, y) => (i ≤ kD (kB l 7) 3) ∧ (knK (kB (kB l 7) 3) (kbV l) i = y)}) => match x with | ⟨(i, y), _⟩ => (⟨[(0, rV 0 0), (2, rV 1 0), (3, rV 2 0), (4, iV ((kD (kB l 7) 3 : Int) - (i : Int)))], [(0, some (95, (nZ l i))), (1, some (59, u1)), (2, some (59, (nY y)))], 3⟩ : ES)) (fun x => match x with | ⟨(i, y), _⟩ => kD (kB l 7) 3 - i) ⟨((0 : Nat), ((IntKind.i64.wrap (1 * (((2 ^ (1 + (kD l 7))) : Nat) : Int))) : Int)), ⟨dQ, rfl⟩⟩ [] (P := (kJ 0) ∧ (kJ 0) ∧ (kJ 0) ∧ ((((kD (kB l 7) 3 : Int) - 0) : Int) = (kD (kB l 7) 3 : Int)) ∧ (([db (eE (kB (kB l 7) 3) 0) (ka0 (eE (kB (kB l 7) 3) 0))] : List D) = [db (kB (kB l 7) 3) (ka0 (kB (kB l 7) 3))]) ∧ (kM [iD 0, qT, qT, qT]) ∧ (kM [iD (IntKind.i64.wrap (1 * (((2 ^ (1 + (kD l 7))) : Nat) : Int))), qT, qT, qT])) zk ⟨rfl, rfl, rfl, eP, (by first | rfl | with_reducible assumption | (simp only [dL, aQ, yN]; rfl) | (congr 1; first | assumption | (simp; done) | omega)), rfl, rfl⟩ ?_
 rintro ⟨⟨i, y⟩, hinv0⟩
 obtain ⟨hi, hy⟩ : (i ≤ kD (kB l 7) 3) ∧ (knK (kB (kB l 7) 3) (kbV l) i = y) := hinv0
 refine qR (l := [(0, rV 0 0), (2, rV 1 0), (3, rV 2 0), (4, iV ((kD (kB l 7) 3 : Int) - (i : Int)))]) (g := [(0, some (95, (nZ l i))), (1, some (59, u1)), (2, some (59, (nY y)))]) (nx := 3) rfl rfl rfl ?_
 refine AW.seq ?_
 by_cases hx5 : ((0 : Int) < ((((kD (kB l 7) 3) : Nat) : Int) - ((i : Nat) : Int)))
 ·refine kK [.no, .b true] (((0 : Int) < ((kD (kB l 7) 3 : Int) - (i : Int)))) [(0, rV 0 0), (2, rV 1 0), (3, rV 2 0), (4, iV ((kD (kB l 7) 3 : Int) - ↑i)), (18, bV true)] [(0, some (95, (nZ l i))), (1, some (59, u1)), (2, some (59, (nY y)))] 3 zo ?_
  refine vB ?_
  refine AW.seq ?_
  refine AW.block ?_
  have hx6 : ((((((kD (eE (kB (kB l 7) 3) i) 7) : Nat) : Int) < 7) ∨ ((kD (eE (kB (kB l 7) 3) i) 7) = 0)) ∧ ((kD (eE (kB (kB l 7) 3) i) 7) ≤ 255)) := qP (eE (kB (kB l 7) 3) i) (7 : Int) ((aF (qD : Byt (kB (kB l 7) 3)) _))
  have hx7 : (Byt (kB (eE (kB (kB l 7) 3) i) 7)) := qH (7 : Int) ((aF (qD : Byt (kB (kB l 7) 3)) _))
  refine aH [.no, .no, .no, .call [0] (iV (kD (eE (kB (kB l 7) 3) i) 7 : Int)) [(0, some (95, .ds [db (kB (eE (kB (kB l 7) 3) i) 7) (ka0 (kB (eE (kB (kB l 7) 3) i) 7))]))] 1 [] none, .w, .n2 (1 + (kD (eE (kB (kB l 7) 3) i) 7)) 0, .i (orI y (IntKind.i64.wrap (1 * (((2 ^ (1 + (kD (eE (kB (kB l 7) 3) i) 7))) : Nat) : Int)))), .no, .no] ((_) ∧ ((-9223372036854775808) ≤ (1 + (kD (eE (kB (kB l 7) 3) i) 7 : Int)) ∧ (1 + (kD (eE (kB (kB l 7) 3) i) 7 : Int)) ≤ 9223372036854775807) ∧ (((1 + (kD (eE (kB (kB l 7) 3) i) 7 : Int)) : Int) = (((1 + (kD (eE (kB (kB l 7) 3) i) 7)) : Nat) : Int)) ∧ ((1 + (kD (eE (kB (kB l 7) 3) i) 7)) ≤ 64) ∧ (qG .or .i64 y (IntKind.i64.wrap (1 * (((2 ^ (1 + (kD (eE (kB (kB l 7) 3) i) 7))) : Nat) : Int))) = (orI y (IntKind.i64.wrap (1 * (((2 ^ (1 + (kD (eE (kB (kB l 7) 3) i) 7))) : Nat) : Int)))))) [(0, rV 0 0), (2, rV 1 0), (3, rV 2 0), (4, iV ((kD (kB l 7) 3 : Int) - ↑i))] [(0, some (95, .ds [db (kB (eE (kB (kB l 7) 3) i) 7) (ka0 (kB (eE (kB (kB l 7) 3) i) 7))])), (1, some (59, u1)), (2, some (59, .ds [iD (orI y (IntKind.i64.wrap (1 * (((2 ^ (1 + (kD (eE (kB (kB l 7) 3) i) 7))) : Nat) : Int)))), qT, qT, qT]))] 3 ⟨(uS (eE (kB (kB l 7) 3) i) 7 (aF (qD : Byt (kB (kB l 7) 3)) _)), ⟨by omega, by omega⟩, (by first | rfl | omega), zo, rfl⟩ ?_
  refine uT [.no, .w, .no] ((-9223372036854775808) ≤ (((kD (kB l 7) 3 : Int) - (i : Int)) - 1) ∧ (((kD (kB l 7) 3 : Int) - (i : Int)) - 1) ≤ 9223372036854775807) [(0, rV 0 0), (2, rV 1 0), (3, rV 2 0), (4, iV (((kD (kB l 7) 3 : Int) - ↑i) - 1))] ⟨by omega, by omega⟩ ?_
  exact kW ⟨(((i + 1) : Nat), ((orI y (IntKind.i64.wrap (1 * (((2 ^ (1 + (kD (eE (kB (kB l 7) 3) i) 7))) : Nat) : Int)))) : Int)), ⟨dQ, (v2k hy rfl)⟩⟩ [] (P := (kJ 0) ∧ (kJ 0) ∧ (kJ 0) ∧ ((((kD (kB l 7) 3 : Int) - (((i + 1) : Nat) : Int)) : Int) = (((kD (kB l 7) 3 : Int) - (i : Int)) - 1)) ∧ (([db (eE (kB (kB l 7) 3) (i + 1)) (ka0 (eE (kB (kB l 7) 3) (i + 1)))] : List D) = [db (kB (eE (kB (kB l 7) 3) i) 7) (ka0 (kB (eE (kB (kB l 7) 3) i) 7))]) ∧ (kM [iD 0, qT, qT, qT]) ∧ (kM [iD (orI y (IntKind.i64.wrap (1 * (((2 ^ (1 + (kD (eE (kB (kB l 7) 3) i) 7))) : Nat) : Int)))), qT, qT, qT])) zk ⟨rfl, rfl, rfl, eP, (by first | rfl | with_reducible assumption | (simp only [dL, aQ, yN]; rfl) | (congr 1; first | assumption | (simp; done) | omega)), rfl, rfl⟩ (show kD (kB l 7) 3 - (i + 1) < kD (kB l 7) 3 - i from i4)
 ·refine kK [.no, .b false] (¬ ((0 : Int) < ((kD (kB l 7) 3 : Int) - (i : Int)))) [(0, rV 0 0), (2, rV 1 0), (3, rV 2 0), (4, iV ((kD (kB l 7) 3 : Int) - ↑i)), (18, bV false)] [(0, some (95, (nZ l i))), (1, some (59, u1)), (2, some (59, (nY y)))] 3 zo ?_
  refine zf ?_
  refine AW.exit ?_
  obtain rfl : i = (kD (kB l 7) 3) := (by omega)
  refine kK (qE 6 [(.fz (.no)), .call [0] (.e (.agg [.d (dl (vN l) (vS (aZ qZ (qY l) 5) (aU qZ (qY l) 5)))])) [(0, some (95, .ds [db (kS l) (ka0 (kS l))]))] 1 [] none, .no, .no]) ((([iD 44100, iD 44100, iD 48000, iD 48000, iD 8000, iD 8000, iD 32000, iD 50000, iD 96000, iD 192000] : List D).length = 5 * 2) ∧ (_)) [(0, rV 0 0), (2, rV 1 0), (3, rV 2 0)] [(0, some (95, .ds [db (kS l) (ka0 (kS l))])), (1, some (59, u1)), (2, some (59, .ds [iD y, dl (vN l) (vS (aZ qZ (qY l) 5) (aU qZ (qY l) 5)), qT, qT]))] 4 ⟨eQ, (u5f qZ 5 (qY l) (by first | omega | with_reducible assumption | (simp only [qC, qB, ka6, kb0, kb1, kb2, kb3, kb4, kb8] <;> omega) | rfl | assumption) zo zo (aF (qD : Byt (kB (kB l 7) 3)) _))⟩ ?_
  refine kK (qE 5 [(.fz (.no)), .call [0] (.e (.agg [.d (dl (vY l) (vS (aZ kT (kS l) 4) (aU kT (kS l) 4)))])) [(0, some (95, .ds [db (yW kT (kS l) 4) (ka0 (yW kT (kS l) 4))]))] 1 [] none, .no, .no]) ((([iD 16, iD 64, iD 64, iD 1024, iD 2048, iD 2048, iD 1, iD 65536] : List D).length = 4 * 2) ∧ (_)) [(0, rV 0 0), (2, rV 1 0), (3, rV 2 0)] [(0, some (95, .ds [db (yW kT (kS l) 4) (ka0 (yW kT (kS l) 4))])), (1, some (59, u1)), (2, some (59, .ds [iD y, dl (vN l) (vS (aZ qZ (qY l) 5) (aU qZ (qY l) 5)), qT, dl (vY l) (vS (aZ kT (kS l) 4) (aU kT (kS l) 4))]))] 5 ⟨eQ, (u5f kT 4 (kS l) (by first | omega | with_reducible assumption | (simp only [qC, qB, ka6, kb0, kb1, kb2, kb3, kb4, kb8] <;> omega) | rfl | assumption) zo zo (aP (aF (qD : Byt (kB (kB l 7) 3)) _)))⟩ ?_
  refine AW.seq ?_
  have hx8 : ((((((kD (yW kT (kS l) 4) 3) : Nat) : Int) < 3) ∨ ((kD (yW kT (kS l) 4) 3) = 0)) ∧ ((kD (yW kT (kS l) 4) 3) ≤ 255)) := qP (yW kT (kS l) 4) (3 : Int) ((aP (aP (aF (qD : Byt (kB (kB l 7) 3)) _))))
  have hx9 : (Byt (yM l)) := qH (3 : Int) ((aP (aP (aF (qD : Byt (kB (kB l 7) 3)) _))))
  refine kK [.no, .call [0] (uV (kD (yW kT (kS l) 4) 3)) [(0, some (95, .ds [db (yM l) (ka0 (yM l))]))] 1 [] none, .w, .no] ((_) ∧ ((-9223372036854775808) ≤ (1 + (kD (yW kT (kS l) 4) 3 : Int)) ∧ (1 + (kD (yW kT (kS l) 4) 3 : Int)) ≤ 9223372036854775807)) [(0, rV 0 0), (2, rV 1 0), (3, rV 2 0), (5, iV (1 + (kD (yW kT (kS l) 4) 3 : Int)))] [(0, some (95, .ds [db (yM l) (ka0 (yM l))])), (1, some (59, u1)), (2, some (59, .ds [iD y, dl (vN l) (vS (aZ qZ (qY l) 5) (aU qZ (qY l) 5)), qT, dl (vY l) (vS (aZ kT (kS l) 4) (aU kT (kS l) 4))]))] 5 ⟨(uS (yW kT (kS l) 4) 3 (aP (aP (aF (qD : Byt (kB (kB l 7) 3)) _)))), ⟨by omega, by omega⟩⟩ ?_
  refine AW.block ?_
  refine s8 2 2 1 23 (cs' := [iC y, .d (dl (vN l) (vS (aZ qZ (qY l) 5) (aU qZ (qY l) 5))), .own 5 0 0 1 true, .d (dl (vY l) (vS (aZ kT (kS l) 4) (aU kT (kS l) 4)))]) rfl rfl rfl ?_
  refine kY 1 hcx (fun (x : {x : Nat × Nat × List (List Int) // match x with | (i2, q, ms) => (i2 ≤ 1 + kD (yW kT (kS l) 4) 3) ∧ (rA (yM l) i2 = ms) ∧ (ka0 ms = q ∧ q ≤ i2) ∧ (MsN ms) ∧ (MsW ms)}) => match x with | ⟨(i2, q, ms), _⟩ => (⟨[(0, rV 0 0), (2, rV 1 0), (3, rV 2 0), (5, iV ((((1 + (kD (yW kT (kS l) 4) 3)) : Nat) : Int) - (i2 : Int)))], [(0, some (95, .ds [db (kV l i2) (ka0 (kV l i2))])), (1, some (59, u1)), (2, some (59, (aL y l q))), (6, some (23, .ds (kI ms)))], 7⟩ : ES)) (fun x => match x with | ⟨(i2, q, ms), _⟩ => 1 + kD (yW kT (kS l) 4) 3 - i2) ⟨((0 : Nat), (0 : Nat), (([] : List (List Int)) : List (List Int))), ⟨dQ, rfl, ⟨rfl, by omega⟩, MsN.nil, MsW.nil⟩⟩ [(6, 5)] (P := (kJ 0) ∧ (kJ 0) ∧ (kJ 0) ∧ ((((((1 + (kD (yW kT (kS l) 4) 3)) : Nat) : Int) - 0) : Int) = (1 + (kD (yW kT (kS l) 4) 3 : Int))) ∧ (([db (rB (yM l) 0) (ka0 (rB (yM l) 0))] : List D) = [db (yM l) (ka0 (yM l))]) ∧ (kM [iD 0, qT, qT, qT]) ∧ (kN y) ∧ (kM (dI .i64 (vN l))) ∧ (kJ (vS (aZ qZ (qY l) 5) (aU qZ (qY l) 5))) ∧ (kJ 0) ∧ (kJ 0) ∧ (kM (dI .i64 (vY l))) ∧ (kJ (vS (aZ kT (kS l) 4) (aU kT (kS l) 4))) ∧ (((kI ([] : List (List Int))) : List D) = ([] : List D))) zk ⟨rfl, rfl, rfl, eP, (by first | rfl | with_reducible assumption), rfl, rfl, rfl, rfl, rfl, rfl, rfl, rfl, (by first | rfl | with_reducible assumption)⟩ ?_
  rintro ⟨⟨i2, q, ms⟩, hinv1⟩
  obtain ⟨hi2, hm, hq, hN, hW⟩ : (i2 ≤ 1 + kD (yW kT (kS l) 4) 3) ∧ (rA (yM l) i2 = ms) ∧ (ka0 ms = q ∧ q ≤ i2) ∧ (MsN ms) ∧ (MsW ms) := hinv1
  refine qR (l := [(0, rV 0 0), (2, rV 1 0), (3, rV 2 0), (5, iV ((((1 + (kD (yW kT (kS l) 4) 3)) : Nat) : Int) - (i2 : Int)))]) (g := [(0, some (95, .ds [db (kV l i2) (ka0 (kV l i2))])), (1, some (59, u1)), (2, some (59, (aL y l q))), (6, some (23, .ds (kI ms)))]) (nx := 7) rfl rfl rfl ?_
  refine AW.seq ?_
  by_cases hx10 : ((0 : Int) < ((((1 + (kD (yW kT (kS l) 4) 3)) : Nat) : Int) - ((i2 : Nat) : Int)))
  ·refine kK [.no, .b true] (((0 : Int) < ((((1 + (kD (yW kT (kS l) 4) 3)) : Nat) : Int) - (i2 : Int)))) [(0, rV 0 0), (2, rV 1 0), (3, rV 2 0), (5, iV ((((1 + (kD (yW kT (kS l) 4) 3)) : Nat) : Int) - ↑i2)), (50, bV true)] [(0, some (95, .ds [db (kV l i2) (ka0 (kV l i2))])), (1, some (59, u1)), (2, some (59, (aL y l q))), (6, some (23, .ds (kI ms)))] 7 zo ?_
   refine vB ?_
   refine AW.seq ?_
   refine AW.block ?_
   have hx11 : (((1 : Nat) ≤ (ka0 (yG (kV l i2)))) ∧ ((ka0 (yG (kV l i2))) ≤ 6)) := (k3s ((j7 (qD : Byt (yM l)) _)))
   refine kK [.no, .call [0] (sV .i64 (yG (kV l i2)) (ka0 (yG (kV l i2)))) [(0, some (95, (aD l i2)))] 1 [] none, .no] _ [(0, rV 0 0), (2, rV 1 0), (3, rV 2 0), (5, iV ((((1 + (kD (yW kT (kS l) 4) 3)) : Nat) : Int) - ↑i2)), (6, sV .i64 (yG (kV l i2)) (ka0 (yG (kV l i2))))] [(0, some (95, (aD l i2))), (1, some (59, u1)), (2, some (59, (aL y l q))), (6, some (23, .ds (kI ms)))] 7 (u5g (kV l i2) (j7 (qD : Byt (yM l)) _)) ?_
   refine kO [.no] True [(0, rV 0 0), (2, rV 1 0), (3, rV 2 0), (5, iV ((((1 + (kD (yW kT (kS l) 4) 3)) : Nat) : Int) - ↑i2)), (6, sV .i64 (yG (kV l i2)) (ka0 (yG (kV l i2)))), (7, bV false)] trivial ?_
   refine AW.seq ?_
   refine kO (qE 4 []) True [(0, rV 0 0), (2, rV 1 0), (3, rV 2 0), (5, iV ((((1 + (kD (yW kT (kS l) 4) 3)) : Nat) : Int) - ↑i2)), (6, sV .i64 (yG (kV l i2)) (ka0 (yG (kV l i2)))), (7, bV false), (56, oV 6 0 q 1), (57, uV q), (58, iV 0)] trivial ?_
   refine AW.block ?_
   refine kY 1 hcx (fun (x : {x : Nat × Bool // match x with | (j, f) => (j ≤ q) ∧ (p9 (ka5 j ms) (yG (kV l i2)) = f)}) => match x with | ⟨(j, f), _⟩ => (⟨[(0, rV 0 0), (2, rV 1 0), (3, rV 2 0), (5, iV ((((1 + (kD (yW kT (kS l) 4) 3)) : Nat) : Int) - (i2 : Int))), (6, sV .i64 (yG (kV l i2)) (ka0 (yG (kV l i2)))), (7, uP (D.lit (.bool (f)))), (56, oV 6 0 q 1), (57, uV q), (58, uV j)], [(0, some (95, (aD l i2))), (1, some (59, u1)), (2, some (59, (aL y l q))), (6, some (23, .ds (kI ms)))], 7⟩ : ES)) (fun x => match x with | ⟨(j, f), _⟩ => q - j) ⟨((0 : Nat), (false : Bool)), ⟨dQ, (v1v _ _)⟩⟩ [] (P := (kJ 0) ∧ (kJ 0) ∧ (kJ 0) ∧ (kN ((((1 + (kD (yW kT (kS l) 4) 3)) : Nat) : Int) - (i2 : Int))) ∧ (kM (dI .i64 (yG (kV l i2)))) ∧ (kJ (ka0 (yG (kV l i2)))) ∧ ((false) = false) ∧ (kJ 0) ∧ (kJ q) ∧ (kN (q : Int)) ∧ (kN 0) ∧ (kM [db (kB (kV l i2) 7) (ka0 (kB (kV l i2) 7))]) ∧ (kM [iD 0, qT, qT, qT]) ∧ (kN y) ∧ (kM (dI .i64 (vN l))) ∧ (kJ (vS (aZ qZ (qY l) 5) (aU qZ (qY l) 5))) ∧ (kJ 0) ∧ (kJ q) ∧ (kM (dI .i64 (vY l))) ∧ (kJ (vS (aZ kT (kS l) 4) (aU kT (kS l) 4))) ∧ (kM (kI ms))) zk ⟨rfl, rfl, rfl, rfl, rfl, rfl, oM, rfl, rfl, rfl, rfl, rfl, rfl, rfl, rfl, rfl, rfl, rfl, rfl, rfl, rfl⟩ ?_
   rintro ⟨⟨j, f⟩, hinv2⟩
   obtain ⟨hj, hf⟩ : (j ≤ q) ∧ (p9 (ka5 j ms) (yG (kV l i2)) = f) := hinv2
   refine qR (l := [(0, rV 0 0), (2, rV 1 0), (3, rV 2 0), (5, iV ((((1 + (kD (yW kT (kS l) 4) 3)) : Nat) : Int) - (i2 : Int))), (6, sV .i64 (yG (kV l i2)) (ka0 (yG (kV l i2)))), (7, uP (D.lit (.bool (f)))), (56, oV 6 0 q 1), (57, uV q), (58, uV j)]) (g := [(0, some (95, (aD l i2))), (1, some (59, u1)), (2, some (59, (aL y l q))), (6, some (23, .ds (kI ms)))]) (nx := 7) rfl rfl rfl ?_
   by_cases hx12 : (((j : Nat) : Int) < ((q : Nat) : Int))
   ·refine kK [.b true] (((j : Int) < (q : Int))) [(0, rV 0 0), (2, rV 1 0), (3, rV 2 0), (5, iV ((((1 + (kD (yW kT (kS l) 4) 3)) : Nat) : Int) - ↑i2)), (6, sV .i64 (yG (kV l i2)) (ka0 (yG (kV l i2)))), (7, uP (D.lit (.bool (f)))), (56, oV 6 0 q 1), (57, uV q), (58, uV j), (59, bV true)] [(0, some (95, (aD l i2))), (1, some (59, u1)), (2, some (59, (aL y l q))), (6, some (23, .ds (kI ms)))] 7 zo ?_
    refine AW.seq ?_
    refine vB ?_
    refine AW.seq ?_
    refine AW.block ?_
    have hx13 : ((ka0 (ka1 ms j ([] : List Int))) ≤ 1000000) := MsW.at (qD : MsW ms) _
    refine kO [.n2 j j, .d (dl (ka1 ms j ([] : List Int)) (ka0 (ka1 ms j ([] : List Int)))), .no] ((kN (j : Int)) ∧ (j < q) ∧ ((0 : Nat) + j * 1 = j) ∧ ((kI ms)[j]? = some (dl (ka1 ms j ([] : List Int)) (ka0 (ka1 ms j ([] : List Int)))))) [(0, rV 0 0), (2, rV 1 0), (3, rV 2 0), (5, iV ((((1 + (kD (yW kT (kS l) 4) 3)) : Nat) : Int) - ↑i2)), (6, sV .i64 (yG (kV l i2)) (ka0 (yG (kV l i2)))), (7, uP (D.lit (.bool (f)))), (9, sV .i64 (ka1 ms j ([] : List Int)) (ka0 (ka1 ms j ([] : List Int)))), (56, oV 6 0 q 1), (57, uV q), (58, uV j)] ⟨rfl, zo, zo, (u23 _ _ (by first | omega | (simp only [qC, qB, ka6, kb0, kb1, kb2, kb3] <;> omega)))⟩ ?_
    rcases Bool.eq_false_or_eq_true (f) with hx15 | hx15
    ·subst hx15
     have hx16 : 1 ≤ ka0 (ka1 ms j ([] : List Int)) := hN.at zo
     refine aH (qE 4 []) True [(0, rV 0 0), (2, rV 1 0), (3, rV 2 0), (5, iV ((((1 + (kD (yW kT (kS l) 4) 3)) : Nat) : Int) - ↑i2)), (6, sV .i64 (yG (kV l i2)) (ka0 (yG (kV l i2)))), (7, bV true), (56, oV 6 0 q 1), (57, uV q), (58, uV j)] [(0, some (95, (aD l i2))), (1, some (59, u1)), (2, some (59, (aL y l q))), (6, some (23, .ds (kI ms)))] 7 trivial ?_
     refine uT [.w, .no] ((-9223372036854775808) ≤ ((j : Int) + 1) ∧ ((j : Int) + 1) ≤ 9223372036854775807) [(0, rV 0 0), (2, rV 1 0), (3, rV 2 0), (5, iV ((((1 + (kD (yW kT (kS l) 4) 3)) : Nat) : Int) - ↑i2)), (6, sV .i64 (yG (kV l i2)) (ka0 (yG (kV l i2)))), (7, bV true), (56, oV 6 0 q 1), (57, uV q), (58, iV (↑j + 1))] ⟨by omega, by omega⟩ ?_
     exact kW ⟨(((j + 1) : Nat), (true : Bool)), ⟨dQ, (by first | exact u1k zo hf | exact u1m zo zo | exact u1l zo hf zo)⟩⟩ [] (P := (kJ 0) ∧ (kJ 0) ∧ (kJ 0) ∧ (kN ((((1 + (kD (yW kT (kS l) 4) 3)) : Nat) : Int) - (i2 : Int))) ∧ (kM (dI .i64 (yG (kV l i2)))) ∧ (kJ (ka0 (yG (kV l i2)))) ∧ ((true) = true) ∧ (kJ 0) ∧ (kJ q) ∧ (kN (q : Int)) ∧ (((((j + 1) : Nat) : Int) : Int) = ((j : Int) + 1)) ∧ (kM [db (kB (kV l i2) 7) (ka0 (kB (kV l i2) 7))]) ∧ (kM [iD 0, qT, qT, qT]) ∧ (kN y) ∧ (kM (dI .i64 (vN l))) ∧ (kJ (vS (aZ qZ (qY l) 5) (aU qZ (qY l) 5))) ∧ (kJ 0) ∧ (kJ q) ∧ (kM (dI .i64 (vY l))) ∧ (kJ (vS (aZ kT (kS l) 4) (aU kT (kS l) 4))) ∧ (kM (kI ms))) zk ⟨rfl, rfl, rfl, rfl, rfl, rfl, oM, rfl, rfl, rfl, eP, rfl, rfl, rfl, rfl, rfl, rfl, rfl, rfl, rfl, rfl⟩ (show q - (j + 1) < q - j from i4)
    ·subst hx15
     by_cases hx18 : ((((ka0 (ka1 ms j ([] : List Int))) : Nat) : Int) = (((ka0 (yG (kV l i2))) : Nat) : Int))
     ·by_cases hx20 : ((ka1 (ka1 ms j ([] : List Int)) 0 0) = (ka1 (yG (kV l i2)) 0 0))
      ·have hx21 : 1 ≤ ka0 (ka1 ms j ([] : List Int)) := hN.at zo
       refine aH (qE 6 [.b true, .no, .no, .n 0, .d (D.lit (.int .i64 (ka1 (ka1 ms j ([] : List Int)) 0 0))), .no, .n 0, .d (D.lit (.int .i64 (ka1 (yG (kV l i2)) 0 0))), .b true, .no, .no, .no]) ((((((ka0 (ka1 ms j ([] : List Int))) : Nat) : Int) = (ka0 (yG (kV l i2)) : Int))) ∧ (kN 0) ∧ ((0 : Nat) < (ka0 (ka1 ms j ([] : List Int)))) ∧ ((ka3 0 (dI .i64 (ka1 ms j ([] : List Int))))[0]? = some (D.lit (.int .i64 (ka1 (ka1 ms j ([] : List Int)) 0 0)))) ∧ (kN 0) ∧ ((0 : Nat) < (ka0 (yG (kV l i2)))) ∧ ((ka3 0 (dI .i64 (yG (kV l i2))))[0]? = some (D.lit (.int .i64 (ka1 (yG (kV l i2)) 0 0)))) ∧ (((ka1 (ka1 ms j ([] : List Int)) 0 0) = (ka1 (yG (kV l i2)) 0 0)))) [(0, rV 0 0), (2, rV 1 0), (3, rV 2 0), (5, iV ((((1 + (kD (yW kT (kS l) 4) 3)) : Nat) : Int) - ↑i2)), (6, sV .i64 (yG (kV l i2)) (ka0 (yG (kV l i2)))), (7, bV true), (56, oV 6 0 q 1), (57, uV q), (58, uV j)] [(0, some (95, (aD l i2))), (1, some (59, u1)), (2, some (59, (aL y l q))), (6, some (23, .ds (kI ms)))] 7 ⟨zo, rfl, zo, (q6 _ _ _ eQ), rfl, zo, (q6 _ _ _ eQ), zo⟩ ?_
       refine uT [.w, .no] ((-9223372036854775808) ≤ ((j : Int) + 1) ∧ ((j : Int) + 1) ≤ 9223372036854775807) [(0, rV 0 0), (2, rV 1 0), (3, rV 2 0), (5, iV ((((1 + (kD (yW kT (kS l) 4) 3)) : Nat) : Int) - ↑i2)), (6, sV .i64 (yG (kV l i2)) (ka0 (yG (kV l i2)))), (7, bV true), (56, oV 6 0 q 1), (57, uV q), (58, iV (↑j + 1))] ⟨by omega, by omega⟩ ?_
       exact kW ⟨(((j + 1) : Nat), (true : Bool)), ⟨dQ, (by first | exact u1k zo hf | exact u1m zo zo | exact u1l zo hf zo)⟩⟩ [] (P := (kJ 0) ∧ (kJ 0) ∧ (kJ 0) ∧ (kN ((((1 + (kD (yW kT (kS l) 4) 3)) : Nat) : Int) - (i2 : Int))) ∧ (kM (dI .i64 (yG (kV l i2)))) ∧ (kJ (ka0 (yG (kV l i2)))) ∧ ((true) = true) ∧ (kJ 0) ∧ (kJ q) ∧ (kN (q : Int)) ∧ (((((j + 1) : Nat) : Int) : Int) = ((j : Int) + 1)) ∧ (kM [db (kB (kV l i2) 7) (ka0 (kB (kV l i2) 7))]) ∧ (kM [iD 0, qT, qT, qT]) ∧ (kN y) ∧ (kM (dI .i64 (vN l))) ∧ (kJ (vS (aZ qZ (qY l) 5) (aU qZ (qY l) 5))) ∧ (kJ 0) ∧ (kJ q) ∧ (kM (dI .i64 (vY l))) ∧ (kJ (vS (aZ kT (kS l) 4) (aU kT (kS l) 4))) ∧ (kM (kI ms))) zk ⟨rfl, rfl, rfl, rfl, rfl, rfl, oM, rfl, rfl, rfl, eP, rfl, rfl, rfl, rfl, rfl, rfl, rfl, rfl, rfl, rfl⟩ (show q - (j + 1) < q - j from i4)
      ·have hx22 : 1 ≤ ka0 (ka1 ms j ([] : List Int)) := hN.at zo
       refine aH (qE 6 [.b true, .no, .no, .n 0, .d (D.lit (.int .i64 (ka1 (ka1 ms j ([] : List Int)) 0 0))), .no, .n 0, .d (D.lit (.int .i64 (ka1 (yG (kV l i2)) 0 0))), .b false, .no, .no, .no]) ((((((ka0 (ka1 ms j ([] : List Int))) : Nat) : Int) = (ka0 (yG (kV l i2)) : Int))) ∧ (kN 0) ∧ ((0 : Nat) < (ka0 (ka1 ms j ([] : List Int)))) ∧ ((ka3 0 (dI .i64 (ka1 ms j ([] : List Int))))[0]? = some (D.lit (.int .i64 (ka1 (ka1 ms j ([] : List Int)) 0 0)))) ∧ (kN 0) ∧ ((0 : Nat) < (ka0 (yG (kV l i2)))) ∧ ((ka3 0 (dI .i64 (yG (kV l i2))))[0]? = some (D.lit (.int .i64 (ka1 (yG (kV l i2)) 0 0)))) ∧ (¬ ((ka1 (ka1 ms j ([] : List Int)) 0 0) = (ka1 (yG (kV l i2)) 0 0)))) [(0, rV 0 0), (2, rV 1 0), (3, rV 2 0), (5, iV ((((1 + (kD (yW kT (kS l) 4) 3)) : Nat) : Int) - ↑i2)), (6, sV .i64 (yG (kV l i2)) (ka0 (yG (kV l i2)))), (7, bV false), (56, oV 6 0 q 1), (57, uV q), (58, uV j)] [(0, some (95, (aD l i2))), (1, some (59, u1)), (2, some (59, (aL y l q))), (6, some (23, .ds (kI ms)))] 7 ⟨zo, rfl, zo, (q6 _ _ _ eQ), rfl, zo, (q6 _ _ _ eQ), zo⟩ ?_
       refine uT [.w, .no] ((-9223372036854775808) ≤ ((j : Int) + 1) ∧ ((j : Int) + 1) ≤ 9223372036854775807) [(0, rV 0 0), (2, rV 1 0), (3, rV 2 0), (5, iV ((((1 + (kD (yW kT (kS l) 4) 3)) : Nat) : Int) - ↑i2)), (6, sV .i64 (yG (kV l i2)) (ka0 (yG (kV l i2)))), (7, bV false), (56, oV 6 0 q 1), (57, uV q), (58, iV (↑j + 1))] ⟨by omega, by omega⟩ ?_
       exact kW ⟨(((j + 1) : Nat), (false : Bool)), ⟨dQ, (by first | exact u1k zo hf | exact u1m zo zo | exact u1l zo hf zo)⟩⟩ [] (P := (kJ 0) ∧ (kJ 0) ∧ (kJ 0) ∧ (kN ((((1 + (kD (yW kT (kS l) 4) 3)) : Nat) : Int) - (i2 : Int))) ∧ (kM (dI .i64 (yG (kV l i2)))) ∧ (kJ (ka0 (yG (kV l i2)))) ∧ ((false) = false) ∧ (kJ 0) ∧ (kJ q) ∧ (kN (q : Int)) ∧ (((((j + 1) : Nat) : Int) : Int) = ((j : Int) + 1)) ∧ (kM [db (kB (kV l i2) 7) (ka0 (kB (kV l i2) 7))]) ∧ (kM [iD 0, qT, qT, qT]) ∧ (kN y) ∧ (kM (dI .i64 (vN l))) ∧ (kJ (vS (aZ qZ (qY l) 5) (aU qZ (qY l) 5))) ∧ (kJ 0) ∧ (kJ q) ∧ (kM (dI .i64 (vY l))) ∧ (kJ (vS (aZ kT (kS l) 4) (aU kT (kS l) 4))) ∧ (kM (kI ms))) zk ⟨rfl, rfl, rfl, rfl, rfl, rfl, oM, rfl, rfl, rfl, eP, rfl, rfl, rfl, rfl, rfl, rfl, rfl, rfl, rfl, rfl⟩ (show q - (j + 1) < q - j from i4)
     ·have hx23 : 1 ≤ ka0 (ka1 ms j ([] : List Int)) := hN.at zo
      refine aH (qE 6 (.b false :: qE 4 [])) (¬ ((((ka0 (ka1 ms j ([] : List Int))) : Nat) : Int) = (ka0 (yG (kV l i2)) : Int))) [(0, rV 0 0), (2, rV 1 0), (3, rV 2 0), (5, iV ((((1 + (kD (yW kT (kS l) 4) 3)) : Nat) : Int) - ↑i2)), (6, sV .i64 (yG (kV l i2)) (ka0 (yG (kV l i2)))), (7, bV false), (56, oV 6 0 q 1), (57, uV q), (58, uV j)] [(0, some (95, (aD l i2))), (1, some (59, u1)), (2, some (59, (aL y l q))), (6, some (23, .ds (kI ms)))] 7 zo ?_
      refine uT [.w, .no] ((-9223372036854775808) ≤ ((j : Int) + 1) ∧ ((j : Int) + 1) ≤ 9223372036854775807) [(0, rV 0 0), (2, rV 1 0), (3, rV 2 0), (5, iV ((((1 + (kD (yW kT (kS l) 4) 3)) : Nat) : Int) - ↑i2)), (6, sV .i64 (yG (kV l i2)) (ka0 (yG (kV l i2)))), (7, bV false), (56, oV 6 0 q 1), (57, uV q), (58, iV (↑j + 1))] ⟨by omega, by omega⟩ ?_
      exact kW ⟨(((j + 1) : Nat), (false : Bool)), ⟨dQ, (by first | exact u1k zo hf | exact u1m zo zo | exact u1l zo hf zo)⟩⟩ [] (P := (kJ 0) ∧ (kJ 0) ∧ (kJ 0) ∧ (kN ((((1 + (kD (yW kT (kS l) 4) 3)) : Nat) : Int) - (i2 : Int))) ∧ (kM (dI .i64 (yG (kV l i2)))) ∧ (kJ (ka0 (yG (kV l i2)))) ∧ ((false) = false) ∧ (kJ 0) ∧ (kJ q) ∧ (kN (q : Int)) ∧ (((((j + 1) : Nat) : Int) : Int) = ((j : Int) + 1)) ∧ (kM [db (kB (kV l i2) 7) (ka0 (kB (kV l i2) 7))]) ∧ (kM [iD 0, qT, qT, qT]) ∧ (kN y) ∧ (kM (dI .i64 (vN l))) ∧ (kJ (vS (aZ qZ (qY l) 5) (aU qZ (qY l) 5))) ∧ (kJ 0) ∧ (kJ q) ∧ (kM (dI .i64 (vY l))) ∧ (kJ (vS (aZ kT (kS l) 4) (aU kT (kS l) 4))) ∧ (kM (kI ms))) zk ⟨rfl, rfl, rfl, rfl, rfl, rfl, oM, rfl, rfl, rfl, eP, rfl, rfl, rfl, rfl, rfl, rfl, rfl, rfl, rfl, rfl⟩ (show q - (j + 1) < q - j from i4)
   ·refine kK [.b false] (¬ ((j : Int) < (q : Int))) [(0, rV 0 0), (2, rV 1 0), (3, rV 2 0), (5, iV ((((1 + (kD (yW kT (kS l) 4) 3)) : Nat) : Int) - ↑i2)), (6, sV .i64 (yG (kV l i2)) (ka0 (yG (kV l i2)))), (7, uP (D.lit (.bool (f)))), (56, oV 6 0 q 1), (57, uV q), (58, uV j), (59, bV false)] [(0, some (95, (aD l i2))), (1, some (59, u1)), (2, some (59, (aL y l q))), (6, some (23, .ds (kI ms)))] 7 zo ?_
    refine AW.seq ?_
    refine zf ?_
    refine AW.exit ?_
    rcases Bool.eq_false_or_eq_true (f) with hx24 | hx24
    ·subst hx24
     refine kK [.no, .no] True [(0, rV 0 0), (2, rV 1 0), (3, rV 2 0), (5, iV ((((1 + (kD (yW kT (kS l) 4) 3)) : Nat) : Int) - ↑i2)), (6, sV .i64 (yG (kV l i2)) (ka0 (yG (kV l i2)))), (81, bV false)] [(0, some (95, (aD l i2))), (1, some (59, u1)), (2, some (59, (aL y l q))), (6, some (23, .ds (kI ms)))] 7 trivial ?_
     refine q8 ?_
     refine uT [.no, .w, .no] ((-9223372036854775808) ≤ (((((1 + (kD (yW kT (kS l) 4) 3)) : Nat) : Int) - (i2 : Int)) - 1) ∧ (((((1 + (kD (yW kT (kS l) 4) 3)) : Nat) : Int) - (i2 : Int)) - 1) ≤ 9223372036854775807) [(0, rV 0 0), (2, rV 1 0), (3, rV 2 0), (5, iV (((((1 + (kD (yW kT (kS l) 4) 3)) : Nat) : Int) - ↑i2) - 1))] ⟨by omega, by omega⟩ ?_
     exact kW ⟨(((i2 + 1) : Nat), (q : Nat), (ms : List (List Int))), ⟨dQ, (by first | exact u9r hm (tP hq.1 zo hf) | exact u9u hm (tP hq.1 zo hf)), (by first | omega | (simp only [qC, qB, ka6, kb0, kb1] <;> omega)), (by first | assumption | exact hN.snoc zo), (by first | assumption | exact hW.snoc (ke2 (wK _) zo))⟩⟩ [] (P := (kJ 0) ∧ (kJ 0) ∧ (kJ 0) ∧ ((((((1 + (kD (yW kT (kS l) 4) 3)) : Nat) : Int) - (((i2 + 1) : Nat) : Int)) : Int) = (((((1 + (kD (yW kT (kS l) 4) 3)) : Nat) : Int) - (i2 : Int)) - 1)) ∧ (([db (rB (yM l) (i2 + 1)) (ka0 (rB (yM l) (i2 + 1)))] : List D) = [db (kB (kV l i2) 7) (ka0 (kB (kV l i2) 7))]) ∧ (kM [iD 0, qT, qT, qT]) ∧ (kN y) ∧ (kM (dI .i64 (vN l))) ∧ (kJ (vS (aZ qZ (qY l) 5) (aU qZ (qY l) 5))) ∧ (kJ 0) ∧ (kJ q) ∧ (kM (dI .i64 (vY l))) ∧ (kJ (vS (aZ kT (kS l) 4) (aU kT (kS l) 4))) ∧ (kM (kI ms))) zk ⟨rfl, rfl, rfl, eP, (by first | rfl | with_reducible assumption), rfl, rfl, rfl, rfl, rfl, rfl, rfl, rfl, rfl⟩ (show 1 + kD (yW kT (kS l) 4) 3 - (i2 + 1) < 1 + kD (yW kT (kS l) 4) 3 - i2 from i4)
    ·subst hx24
     refine kK [.no, .no] True [(0, rV 0 0), (2, rV 1 0), (3, rV 2 0), (5, iV ((((1 + (kD (yW kT (kS l) 4) 3)) : Nat) : Int) - ↑i2)), (6, sV .i64 (yG (kV l i2)) (ka0 (yG (kV l i2)))), (81, bV true)] [(0, some (95, (aD l i2))), (1, some (59, u1)), (2, some (59, (aL y l q))), (6, some (23, .ds (kI ms)))] 7 trivial ?_
     refine zt ?_
     refine aH (qE 4 [.ap none (q + 1) (kI (ms ++ ([(yG (kV l i2))] : List (List Int)))), .no, .no]) (([dl (yG (kV l i2)) (ka0 (yG (kV l i2)))].length = 1 * 1) ∧ (((kI ms) : List D).length = q * 1) ∧ ((q + 1) * 24 ≤ 140737488355328) ∧ (q + 1 = (q + 1)) ∧ (((kI ms) : List D) ++ [dl (yG (kV l i2)) (ka0 (yG (kV l i2)))] = (kI (ms ++ ([(yG (kV l i2))] : List (List Int)))))) [(0, rV 0 0), (2, rV 1 0), (3, rV 2 0), (5, iV ((((1 + (kD (yW kT (kS l) 4) 3)) : Nat) : Int) - ↑i2))] [(0, some (95, (aD l i2))), (1, some (59, u1)), (2, some (59, .cs [iC y, .d (dl (vN l) (vS (aZ qZ (qY l) 5) (aU qZ (qY l) 5))), .own 8 0 (q + 1) 1 true, .d (dl (vY l) (vS (aZ kT (kS l) 4) (aU kT (kS l) 4)))])), (8, some (23, .ds (kI (ms ++ ([(yG (kV l i2))] : List (List Int))))))] 9 ⟨eQ, eQ, zo, zo, (bU ms (yG (kV l i2)) (ka0 (yG (kV l i2))) (by first | rfl | omega))⟩ ?_
     refine uT [.no, .w, .no] ((-9223372036854775808) ≤ (((((1 + (kD (yW kT (kS l) 4) 3)) : Nat) : Int) - (i2 : Int)) - 1) ∧ (((((1 + (kD (yW kT (kS l) 4) 3)) : Nat) : Int) - (i2 : Int)) - 1) ≤ 9223372036854775807) [(0, rV 0 0), (2, rV 1 0), (3, rV 2 0), (5, iV (((((1 + (kD (yW kT (kS l) 4) 3)) : Nat) : Int) - ↑i2) - 1))] ⟨by omega, by omega⟩ ?_
     exact kW ⟨(((i2 + 1) : Nat), ((q + 1) : Nat), ((ms ++ ([(yG (kV l i2))] : List (List Int))) : List (List Int))), ⟨dQ, (by first | exact u9r hm (tP hq.1 zo hf) | exact u9u hm (tP hq.1 zo hf)), (by first | omega | (simp only [qC, qB, ka6, kb0, kb1] <;> omega)), (by first | assumption | exact hN.snoc zo), (by first | assumption | exact hW.snoc (ke2 (wK _) zo))⟩⟩ [(6, 8)] (P := (kJ 0) ∧ (kJ 0) ∧ (kJ 0) ∧ ((((((1 + (kD (yW kT (kS l) 4) 3)) : Nat) : Int) - (((i2 + 1) : Nat) : Int)) : Int) = (((((1 + (kD (yW kT (kS l) 4) 3)) : Nat) : Int) - (i2 : Int)) - 1)) ∧ (([db (rB (yM l) (i2 + 1)) (ka0 (rB (yM l) (i2 + 1)))] : List D) = [db (kB (kV l i2) 7) (ka0 (kB (kV l i2) 7))]) ∧ (kM [iD 0, qT, qT, qT]) ∧ (kN y) ∧ (kM (dI .i64 (vN l))) ∧ (kJ (vS (aZ qZ (qY l) 5) (aU qZ (qY l) 5))) ∧ (kJ 0) ∧ (kJ (q + 1)) ∧ (kM (dI .i64 (vY l))) ∧ (kJ (vS (aZ kT (kS l) 4) (aU kT (kS l) 4))) ∧ (kM (kI (ms ++ ([(yG (kV l i2))] : List (List Int)))))) zk ⟨rfl, rfl, rfl, eP, (by first | rfl | with_reducible assumption), rfl, rfl, rfl, rfl, rfl, rfl, rfl, rfl, rfl⟩ (show 1 + kD (yW kT (kS l) 4) 3 - (i2 + 1) < 1 + kD (yW kT (kS l) 4) 3 - i2 from i4)
  ·refine kK [.no, .b false] (¬ ((0 : Int) < ((((1 + (kD (yW kT (kS l) 4) 3)) : Nat) : Int) - (i2 : Int)))) [(0, rV 0 0), (2, rV 1 0), (3, rV 2 0), (5, iV ((((1 + (kD (yW kT (kS l) 4) 3)) : Nat) : Int) - ↑i2)), (50, bV false)] [(0, some (95, .ds [db (kV l i2) (ka0 (kV l i2))])), (1, some (59, u1)), (2, some (59, (aL y l q))), (6, some (23, .ds (kI ms)))] 7 zo ?_
   refine zf ?_
   refine AW.exit ?_
   refine kK [.no, .no] True [(2, rV 1 0)] [(0, some (95, .ds [db (kV l i2) (ka0 (kV l i2))])), (1, some (59, (aL y l q))), (6, some (23, .ds (kI ms)))] 7 trivial ?_
   obtain rfl : i2 = (1 + (kD (yW kT (kS l) 4) 3)) := (by omega)
   refine AW.freeze 6 (l' := [(2, rV 1 0)]) (g' := [(0, some (95, .ds [db (rB (yM l) (1 + (kD (yW kT (kS l) 4) 3))) (ka0 (rB (yM l) (1 + (kD (yW kT (kS l) 4) 3))))])), (1, some (59, .ds [iD y, dl (vN l) (vS (aZ qZ (qY l) 5) (aU qZ (qY l) 5)), D.sl (kI ms) q, dl (vY l) (vS (aZ kT (kS l) 4) (aU kT (kS l) 4))]))]) rfl (FzS.cons rfl (.same _) FzS.nil) (qO rfl rfl (FzG.to (bc := .cs [iC y, .d (dl (vN l) (vS (aZ qZ (qY l) 5) (aU qZ (qY l) 5))), .own 6 0 q 1 true, .d (dl (vY l) (vS (aZ kT (kS l) 4) (aU kT (kS l) 4)))]) rfl (by rfl) (FzL.cons (.same _) (FzL.cons (.same _) (FzL.cons (@FzC.own 6 ((kI ms) : List D) 0 q 1 true ((kI ms) : List D) (by rw [List.drop_zero, kc6, kb7 (by first | omega | (simp only [qC, qB, qQ, ka6, kb0, kb1, kb2, kb3, kb4, kb8, kc5, kc0, kc6] <;> omega))]) eQ) (FzL.cons (.same _) FzL.nil)))) FzG.nil)) ?_
   have hz1 : boK l = y := hy
   have hz2 : nT l = ms := hm
   refine AW.ret ?_
   exact kA (.inr rfl) [] (P := (((boK l) : Int) = y) ∧ (((dI .i64 (boR l)) : List D) = (dI .i64 (vN l))) ∧ (((zE l) : Nat) = (vS (aZ qZ (qY l) 5) (aU qZ (qY l) 5))) ∧ (((kI (nT l)) : List D) = (kI ms)) ∧ (((ka0 (nT l)) : Nat) = q) ∧ (((dI .i64 (boS l)) : List D) = (dI .i64 (vY l))) ∧ (((zD l) : Nat) = (vS (aZ kT (kS l) 4) (aU kT (kS l) 4))) ∧ (([db (boD l) (ka0 (boD l))] : List D) = [db (rB (yM l) (1 + (kD (yW kT (kS l) 4) 3))) (ka0 (rB (yM l) (1 + (kD (yW kT (kS l) 4) 3))))])) zk ⟨(by first | rfl | exact hz1 | (rw [hz2]; omega) | omega), (by first | rfl | (rw [hz2]; done) | (rw [hz2]; rfl)), (by first | rfl | exact hz1 | (rw [hz2]; omega) | omega), (by first | rfl | (rw [hz2]; done) | (rw [hz2]; rfl)), (by first | rfl | exact hz1 | (rw [hz2]; omega) | omega), (by first | rfl | (rw [hz2]; done) | (rw [hz2]; rfl)), (by first | rfl | exact hz1 | (rw [hz2]; omega) | omega), (by first | rfl | (rw [hz2]; done) | (rw [hz2]; rfl))⟩
end Go.Proofs.YtcfmjpnffembpaaGreat
