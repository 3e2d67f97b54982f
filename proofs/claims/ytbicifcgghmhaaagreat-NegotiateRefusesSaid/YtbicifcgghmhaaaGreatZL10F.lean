/- Boxes out of dice. No statement is proved here. -/
import Derived.Test.YtbicifcgghmhaaaGreatZL10E
namespace Go.Proofs.YtbicifcgghmhaaaGreat
open Go.ChangeShapes Go.WideShapes Go.ChangeAt Go.RowKit
open List renaming drop → ka3, getD → ka1, getD_eq_getElem?_getD → ka7, getElem?_eq_getElem → ka8, length → ka0, length_append → ka6, length_cons → ka9, length_drop → kb2, length_map → kc4, length_nil → kb1, length_replicate → kb4, length_reverse → kc1, length_set → kb9, length_take → kb0, take → ka5, take_of_length_le → kb8
open Nat renaming le_trans → ke0, mul_one → kc7
set_option linter.unusedVariables false
set_option linter.unusedSimpArgs false
set_option maxHeartbeats 4000000
set_option maxRecDepth 100000
theorem u1c (xs : List (List Int)) (i : Nat) (h : i < xs.length) : (kL xs)[i]? = some (D.sl (dI .i64 (ka1 xs i [])) (ka1 xs i []).length) := by
 have := bM xs i h
 rw [List.getElem?_drop, Nat.add_zero] at this; exact this
def kbV (l : List Int) : Int := IntKind.i64.wrap (1 * (((2 ^ (1 + (kA l 7))) : Nat) : Int))
def orI (a b : Int) : Int := qM .or .i64 a b
def eC (l : List Int) : Nat → List Int
 | 0 => l
 | i + 1 => kD (eC l i) 7
def knK (l : List Int) (k : Int) : Nat → Int
 | 0 => k
 | i + 1 => orI (knK l k i) (kbV (eC l i))
theorem aB {l : List Int} (h : Byt l) : ∀ i, Byt (eC l i)
 | 0 => h
 | i + 1 => qR _ (aB h i)
def thE (x m : List Int) : Bool := decide (ka0 x = ka0 m ∧ ka1 x 0 0 = ka1 m 0 0)
def oL (ms : List (List Int)) (m : List Int) : Bool := ms.any fun x => thE x m
theorem v34 (ms : List (List Int)) (m : List Int) : oL (ka5 0 ms) m = false := rfl
theorem sA {ms : List (List Int)} {m : List Int} {j : Nat} (h : j < ms.length) : oL (ka5 (j + 1) ms) m = (oL (ka5 j ms) m || thE (ka1 ms j []) m) := by
 unfold oL
 rw [ka7, ka8 h, List.take_succ_eq_append_getElem h, List.any_append]
 simp
theorem u0v {ms : List (List Int)} {m : List Int} {j : Nat} (h : j < ms.length) (h1 : oL (ka5 j ms) m = true) : oL (ka5 (j + 1) ms) m = true := by
 rw [sA h, h1]; rfl
theorem u0x {ms : List (List Int)} {m : List Int} {j : Nat} (h : j < ms.length) (h1 : ka0 (ka1 ms j []) = ka0 m ∧ ka1 (ka1 ms j []) 0 0 = ka1 m 0 0) : oL (ka5 (j + 1) ms) m = true := by
 rw [sA h, show thE (ka1 ms j []) m = true from decide_eq_true h1, Bool.or_true]
theorem u0w {ms : List (List Int)} {m : List Int} {j : Nat} (h : j < ms.length) (h0 : oL (ka5 j ms) m = false) (h1 : ¬ (ka0 (ka1 ms j []) = ka0 m ∧ ka1 (ka1 ms j []) 0 0 = ka1 m 0 0)) : oL (ka5 (j + 1) ms) m = false := by
 rw [sA h, h0, show thE (ka1 ms j []) m = false from decide_eq_false h1]; rfl
def oN (l : List Int) : Nat → List Int
 | 0 => l
 | i + 1 => kD (oN l i) 7
def oM (l : List Int) : Nat → List (List Int)
 | 0 => []
 | i + 1 => if oL (oM l i) (yU (oN l i)) = true then oM l i else oM l i ++ [yU (oN l i)]
theorem i0 {l : List Int} (h : Byt l) : ∀ i, Byt (oN l i)
 | 0 => h
 | i + 1 => qR _ (i0 h i)
theorem v0k {l : List Int} {i : Nat} {ms : List (List Int)} (h : oM l i = ms) (h1 : oL ms (yU (oN l i)) = true) : oM l (i + 1) = ms := by
 subst h; exact if_pos h1
theorem v0n {l : List Int} {i : Nat} {ms : List (List Int)} (h : oM l i = ms) (h1 : oL ms (yU (oN l i)) = false) : oM l (i + 1) = ms ++ [yU (oN l i)] := by
 subst h; exact if_neg (by rw [h1]; decide)
theorem v3v {l : List Int} {k : Int} {i : Nat} {y x : Int} (h : knK l k i = y) (hx : x = orI y (kbV (eC l i))) : knK l k (i + 1) = x := by
 subst h; rw [hx]; rfl
theorem sB {ms : List (List Int)} {m : List Int} {j c : Nat} {f : Bool} (hc : ms.length = c) (hj : c ≤ j) (h : oL (ka5 j ms) m = f) : oL ms m = f := by
 rw [kb8 (by omega)] at h; exact h
theorem k6r (l : List Int) : ∀ i, MsW (oM l i)
 | 0 => MsW.nil
 | i + 1 => by
  rw [oM]; split
  ·exact k6r l i
  ·exact (k6r l i).snoc (ke0 (s5 _) (by omega))
theorem k0z (l : List Int) : ∀ i, ka0 (oM l i) ≤ i
 | 0 => Nat.le_refl _
 | i + 1 => by
  have := k0z l i
  rw [oM]; split
  ·omega
  ·rw [ka6, List.length_singleton]; omega
def bo1 (l : List Int) : List Int := kD (kD l 7) 3
def bo2 (l : List Int) : List Int := eC (bo1 l) (kA (kD l 7) 3)
def rtT : List Int := [44100, 44100, 48000, 48000, 8000, 8000, 32000, 50000, 96000, 192000]
def szT : List Int := [16, 64, 64, 1024, 2048, 2048, 1, 65536]
def bo3 (l : List Int) : List Int := vE rtT (bo2 l) 5
def bo4 (l : List Int) : List Int := vE szT (bo3 l) 4
def bo5 (l : List Int) : List Int := kD (bo4 l) 3
def boN (l : List Int) : Nat := 1 + kA (bo4 l) 3
def boD (l : List Int) : List Int := oN (bo5 l) (boN l)
def zQ (l : List Int) : Int := knK (bo1 l) (kbV l) (kA (kD l 7) 3)
def zP (l : List Int) : List Int := e7 (aV rtT (bo2 l) 5) (aQ rtT (bo2 l) 5)
def wO (l : List Int) : Nat := vP (aV rtT (bo2 l) 5) (aQ rtT (bo2 l) 5)
def zO (l : List Int) : List Int := e7 (aV szT (bo3 l) 4) (aQ szT (bo3 l) 4)
def wN (l : List Int) : Nat := vP (aV szT (bo3 l) 4) (aQ szT (bo3 l) 4)
def mB (l : List Int) : List (List Int) := oM (bo5 l) (boN l)
def MsN (xs : List (List Int)) : Prop := ∀ l ∈ xs, 1 ≤ ka0 l
theorem MsN.nil : MsN [] := fun l h => by cases h
theorem MsN.snoc {xs : List (List Int)} {l : List Int} (h : MsN xs) (hl : 1 ≤ ka0 l) : MsN (xs ++ [l]) := fun m hm => (List.mem_append.1 hm).elim (h m) fun hm => by
 rw [List.mem_singleton.1 hm]; exact hl
theorem MsN.at {xs : List (List Int)} (h : MsN xs) {i : Nat} (hi : i < xs.length) : 1 ≤ ka0 (ka1 xs i []) := by
 rw [ka7, ka8 hi]; exact h _ (List.getElem_mem hi)
attribute [local irreducible] aV vE aQ e7 vP kA kD yU oL
abbrev uF := ([44100, 44100, 48000, 48000, 8000, 8000, 32000, 50000, 96000, 192000] : List Int)
abbrev uB (l : List Int) := eC (kD (kD l 7) 3) (kA (kD l 7) 3)
abbrev kP (l : List Int) := vE uF (uB l) 5
abbrev kR := ([16, 64, 64, 1024, 2048, 2048, 1, 65536] : List Int)
abbrev yX (l : List Int) := kD (vE kR (kP l) 4) 3
abbrev kQ (l : List Int) (i2 : Nat) := oN (yX l) i2
abbrev vM (l : List Int) := e7 (aV uF (uB l) 5) (aQ uF (uB l) 5)
abbrev vW (l : List Int) := e7 (aV kR (kP l) 4) (aQ kR (kP l) 4)
theorem dO {p : Prop} (h : p := by first | omega | assumption | simp) : p := h
theorem eJ {p : Prop} (h : p := by first | rfl | omega | assumption | (simp; done) | (simp; omega)) : p := h
theorem gZ {p : Prop} (h : p := by first | omega | (show _ < _; simp; omega)) : p := h
theorem eK {p : Prop} (h : p := by first | omega | (simp only [k8, kZ, qW, ka6, ka9, kb1, kb0, kb2, kb4, kb9, kc4, kc1, kc7] <;> omega) | rfl) : p := h
theorem m7 {p : Prop} (h : p := by first | rfl | assumption | simp) : p := h
abbrev aF (y : Int) (l : List Int) (q : Nat) : BC := .cs [iC y, .d (D.sl (dI .i64 (vM l)) (vP (aV uF (uB l) 5) (aQ uF (uB l) 5))), .own 6 0 q 1 true, .d (D.sl (dI .i64 (vW l)) (vP (aV kR (kP l) 4) (aQ kR (kP l) 4)))]
abbrev u7 : BC := .ds [iD 0, D.lit (.slice none 0 0), D.lit (.slice none 0 0), D.lit (.slice none 0 0)]
abbrev v8 (l : List Int) (i2 : Nat) : BC := .ds [D.sl (dI .u8 (kD (kQ l i2) 7)) (ka0 (kD (kQ l i2) 7))]
abbrev mG (l : List Int) (i : Nat) : BC := .ds [D.sl (dI .u8 (eC (kD (kD l 7) 3) i)) (ka0 (eC (kD (kD l 7) 3) i))]
abbrev mF (y : Int) : BC := .ds [iD y, D.lit (.slice none 0 0), D.lit (.slice none 0 0), D.lit (.slice none 0 0)]
theorem v2r (l : List Int) (hb : Byt l) : Fun 27 [.c (.ptr 0 0)] (kH [(0, some (70, .ds [D.sl (dI .u8 l) (ka0 l)]))]) 1 (.e (.agg [iC (zQ l), .d (D.sl (dI .i64 (zP l)) (wO l)), .d (D.sl (kL (mB l)) (ka0 (mB l))), .d (D.sl (dI .i64 (zO l)) (wN l))])) (kH [(0, some (70, .ds [D.sl (dI .u8 (boD l)) (ka0 (boD l))]))]) 1 := by
 refine Fun.mk (n := 89) Tryz.func27 rfl rfl (Nat.le_of_ble_eq_true rfl) ?_
 intro cx hcx
 refine kK [.no] True [(0, rV 0 0), (2, rV 1 0)] [(0, some (70, .ds [db l (ka0 l)])), (1, some (63, u7))] 2 trivial ?_
 have hx1 : ((((((kA l 7) : Nat) : Int) < 7) ∨ ((kA l 7) = 0)) ∧ ((kA l 7) ≤ 255)) := uN l (7 : Int) (qJ : Byt l)
 have hx2 : (Byt (kD l 7)) := qR (7 : Int) (qJ : Byt l)
 refine kK [.no, .call [0] (uV (kA l 7)) [(0, some (70, .ds [db (kD l 7) (ka0 (kD l 7))]))] 1 [] none, .w, .n2 (1 + (kA l 7)) 0, .no, .no, .no] ((_) ∧ (yQ (1 + (kA l 7 : Int))) ∧ (((1 + (kA l 7 : Int)) : Int) = (((1 + (kA l 7)) : Nat) : Int)) ∧ ((1 + (kA l 7)) ≤ 64)) [(0, rV 0 0), (2, rV 1 0), (3, rV 2 0)] [(0, some (70, .ds [db (kD l 7) (ka0 (kD l 7))])), (1, some (63, u7)), (2, some (63, .ds [iD (IntKind.i64.wrap (1 * (((2 ^ (1 + (kA l 7))) : Nat) : Int))), qQ, qQ, qQ]))] 3 ⟨(c5 l 7 (qJ : Byt l)), ⟨by omega, by omega⟩, (by first | rfl | omega), zo⟩ ?_
 refine AW.seq ?_
 have hx3 : ((((((kA (kD l 7) 3) : Nat) : Int) < 3) ∨ ((kA (kD l 7) 3) = 0)) ∧ ((kA (kD l 7) 3) ≤ 255)) := uN (kD l 7) (3 : Int) (qJ : Byt (kD l 7))
 have hx4 : (Byt (kD (kD l 7) 3)) := qR (3 : Int) (qJ : Byt (kD l 7))
 refine kK [.no, .call [0] (uV (kA (kD l 7) 3)) [(0, some (70, .ds [db (kD (kD l 7) 3) (ka0 (kD (kD l 7) 3))]))] 1 [] none, .no] _ [(0, rV 0 0), (2, rV 1 0), (3, rV 2 0), (4, uV (kA (kD l 7) 3))] [(0, some (70, .ds [db (kD (kD l 7) 3) (ka0 (kD (kD l 7) 3))])), (1, some (63, u7)), (2, some (63, .ds [iD (IntKind.i64.wrap (1 * (((2 ^ (1 + (kA l 7))) : Nat) : Int))), qQ, qQ, qQ]))] 3 (c5 (kD l 7) 3 (qJ : Byt (kD l 7))) ?_
 refine AW.block ?_
 refine qH 1 hcx (fun (x : {x : Nat × Int // match x with | (i, y) => (i ≤ kA (kD l 7) 3) ∧ (knK (kD (kD l 7) 3) (kbV l) i = y)}) => match x with | ⟨(i, y), _⟩ => (⟨[(0, rV 0 0), (2, rV 1 0), (3, rV 2 0), (4, iV ((kA (kD l 7) 3 : Int) - (i : Int)))], [(0, some (70, (mG l i))), (1, some (63, u7)), (2, some (63, (mF y)))], 3⟩ : ES)) (fun x => match x with | ⟨(i, y), _⟩ => kA (kD l 7) 3 - i) ⟨((0 : Nat), ((IntKind.i64.wrap (1 * (((2 ^ (1 + (kA l 7))) : Nat) : Int))) : Int)), ⟨dO, rfl⟩⟩ [] (P := (kJ 0) ∧ (kJ 0) ∧ (kJ 0) ∧ ((((kA (kD l 7) 3 : Int) - 0) : Int) = (kA (kD l 7) 3 : Int)) ∧ (([db (eC (kD (kD l 7) 3) 0) (ka0 (eC (kD (kD l 7) 3) 0))] : List D) = [db (kD (kD l 7) 3) (ka0 (kD (kD l 7) 3))]) ∧ (kN [iD 0, qQ, qQ, qQ]) ∧ (kN [iD (IntKind.i64.wrap (1 * (((2 ^ (1 + (kA l 7))) : Nat) : Int))), qQ, qQ, qQ])) zk ⟨rfl, rfl, rfl, eJ, (by first | rfl | with_reducible assumption | (simp only [dJ, aN, y9]; rfl) | (congr 1; first | assumption | (simp; done) | omega)), rfl, rfl⟩ ?_
 rintro ⟨⟨i, y⟩, hinv0⟩
 obtain ⟨hi, hy⟩ : (i ≤ kA (kD l 7) 3) ∧ (knK (kD (kD l 7) 3) (kbV l) i = y) := hinv0
 refine uL (l := [(0, rV 0 0), (2, rV 1 0), (3, rV 2 0), (4, iV ((kA (kD l 7) 3 : Int) - (i : Int)))]) (g := [(0, some (70, (mG l i))), (1, some (63, u7)), (2, some (63, (mF y)))]) (nx := 3) rfl rfl rfl ?_
 refine AW.seq ?_
 by_cases hx5 : ((0 : Int) < ((((kA (kD l 7) 3) : Nat) : Int) - ((i : Nat) : Int)))
 ·refine kK [.no, .b true] (((0 : Int) < ((kA (kD l 7) 3 : Int) - (i : Int)))) [(0, rV 0 0), (2, rV 1 0), (3, rV 2 0), (4, iV ((kA (kD l 7) 3 : Int) - ↑i)), (18, bV true)] [(0, some (70, (mG l i))), (1, some (63, u7)), (2, some (63, (mF y)))] 3 zo ?_
  refine vR ?_
  refine AW.seq ?_
  refine AW.block ?_
  have hx6 : ((((((kA (eC (kD (kD l 7) 3) i) 7) : Nat) : Int) < 7) ∨ ((kA (eC (kD (kD l 7) 3) i) 7) = 0)) ∧ ((kA (eC (kD (kD l 7) 3) i) 7) ≤ 255)) := uN (eC (kD (kD l 7) 3) i) (7 : Int) ((aB (qJ : Byt (kD (kD l 7) 3)) _))
  have hx7 : (Byt (kD (eC (kD (kD l 7) 3) i) 7)) := qR (7 : Int) ((aB (qJ : Byt (kD (kD l 7) 3)) _))
  refine aG [.no, .no, .no, .call [0] (iV (kA (eC (kD (kD l 7) 3) i) 7 : Int)) [(0, some (70, .ds [db (kD (eC (kD (kD l 7) 3) i) 7) (ka0 (kD (eC (kD (kD l 7) 3) i) 7))]))] 1 [] none, .w, .n2 (1 + (kA (eC (kD (kD l 7) 3) i) 7)) 0, .i (orI y (IntKind.i64.wrap (1 * (((2 ^ (1 + (kA (eC (kD (kD l 7) 3) i) 7))) : Nat) : Int)))), .no, .no] ((_) ∧ ((-9223372036854775808) ≤ (1 + (kA (eC (kD (kD l 7) 3) i) 7 : Int)) ∧ (1 + (kA (eC (kD (kD l 7) 3) i) 7 : Int)) ≤ 9223372036854775807) ∧ (((1 + (kA (eC (kD (kD l 7) 3) i) 7 : Int)) : Int) = (((1 + (kA (eC (kD (kD l 7) 3) i) 7)) : Nat) : Int)) ∧ ((1 + (kA (eC (kD (kD l 7) 3) i) 7)) ≤ 64) ∧ (qM .or .i64 y (IntKind.i64.wrap (1 * (((2 ^ (1 + (kA (eC (kD (kD l 7) 3) i) 7))) : Nat) : Int))) = (orI y (IntKind.i64.wrap (1 * (((2 ^ (1 + (kA (eC (kD (kD l 7) 3) i) 7))) : Nat) : Int)))))) [(0, rV 0 0), (2, rV 1 0), (3, rV 2 0), (4, iV ((kA (kD l 7) 3 : Int) - ↑i))] [(0, some (70, .ds [db (kD (eC (kD (kD l 7) 3) i) 7) (ka0 (kD (eC (kD (kD l 7) 3) i) 7))])), (1, some (63, u7)), (2, some (63, .ds [iD (orI y (IntKind.i64.wrap (1 * (((2 ^ (1 + (kA (eC (kD (kD l 7) 3) i) 7))) : Nat) : Int)))), qQ, qQ, qQ]))] 3 ⟨(c5 (eC (kD (kD l 7) 3) i) 7 (aB (qJ : Byt (kD (kD l 7) 3)) _)), ⟨by omega, by omega⟩, (by first | rfl | omega), zo, rfl⟩ ?_
  refine yT [.no, .w, .no] (yQ (((kA (kD l 7) 3 : Int) - (i : Int)) - 1)) [(0, rV 0 0), (2, rV 1 0), (3, rV 2 0), (4, iV (((kA (kD l 7) 3 : Int) - ↑i) - 1))] ⟨by omega, by omega⟩ ?_
  exact qE ⟨(((i + 1) : Nat), ((orI y (IntKind.i64.wrap (1 * (((2 ^ (1 + (kA (eC (kD (kD l 7) 3) i) 7))) : Nat) : Int)))) : Int)), ⟨dO, (v3v hy rfl)⟩⟩ [] (P := (kJ 0) ∧ (kJ 0) ∧ (kJ 0) ∧ ((((kA (kD l 7) 3 : Int) - (((i + 1) : Nat) : Int)) : Int) = (((kA (kD l 7) 3 : Int) - (i : Int)) - 1)) ∧ (([db (eC (kD (kD l 7) 3) (i + 1)) (ka0 (eC (kD (kD l 7) 3) (i + 1)))] : List D) = [db (kD (eC (kD (kD l 7) 3) i) 7) (ka0 (kD (eC (kD (kD l 7) 3) i) 7))]) ∧ (kN [iD 0, qQ, qQ, qQ]) ∧ (kN [iD (orI y (IntKind.i64.wrap (1 * (((2 ^ (1 + (kA (eC (kD (kD l 7) 3) i) 7))) : Nat) : Int)))), qQ, qQ, qQ])) zk ⟨rfl, rfl, rfl, eJ, (by first | rfl | with_reducible assumption | (simp only [dJ, aN, y9]; rfl) | (congr 1; first | assumption | (simp; done) | omega)), rfl, rfl⟩ (show kA (kD l 7) 3 - (i + 1) < kA (kD l 7) 3 - i from gZ)
 ·refine kK [.no, .b false] (¬ ((0 : Int) < ((kA (kD l 7) 3 : Int) - (i : Int)))) [(0, rV 0 0), (2, rV 1 0), (3, rV 2 0), (4, iV ((kA (kD l 7) 3 : Int) - ↑i)), (18, bV false)] [(0, some (70, (mG l i))), (1, some (63, u7)), (2, some (63, (mF y)))] 3 zo ?_
  refine zf ?_
  refine AW.exit ?_
  obtain rfl : i = (kA (kD l 7) 3) := (by omega)
  refine kK (qN 6 [(.fz (.no)), .call [0] (.e (.agg [.d (dl (vM l) (vP (aV uF (uB l) 5) (aQ uF (uB l) 5)))])) [(0, some (70, .ds [db (kP l) (ka0 (kP l))]))] 1 [] none, .no, .no]) ((([iD 44100, iD 44100, iD 48000, iD 48000, iD 8000, iD 8000, iD 32000, iD 50000, iD 96000, iD 192000] : List D).length = 5 * 2) ∧ (_)) [(0, rV 0 0), (2, rV 1 0), (3, rV 2 0)] [(0, some (70, .ds [db (kP l) (ka0 (kP l))])), (1, some (63, u7)), (2, some (63, .ds [iD y, dl (vM l) (vP (aV uF (uB l) 5) (aQ uF (uB l) 5)), qQ, qQ]))] 4 ⟨eK, (u5p uF 5 (uB l) (by first | omega | with_reducible assumption | (simp only [k8, kZ, ka6, ka9, kb1, kb0, kb2, kb4, kb9] <;> omega) | rfl | assumption) zo zo (aB (qJ : Byt (kD (kD l 7) 3)) _))⟩ ?_
  refine kK (qN 5 [(.fz (.no)), .call [0] (.e (.agg [.d (dl (vW l) (vP (aV kR (kP l) 4) (aQ kR (kP l) 4)))])) [(0, some (70, .ds [db (vE kR (kP l) 4) (ka0 (vE kR (kP l) 4))]))] 1 [] none, .no, .no]) ((([iD 16, iD 64, iD 64, iD 1024, iD 2048, iD 2048, iD 1, iD 65536] : List D).length = 4 * 2) ∧ (_)) [(0, rV 0 0), (2, rV 1 0), (3, rV 2 0)] [(0, some (70, .ds [db (vE kR (kP l) 4) (ka0 (vE kR (kP l) 4))])), (1, some (63, u7)), (2, some (63, .ds [iD y, dl (vM l) (vP (aV uF (uB l) 5) (aQ uF (uB l) 5)), qQ, dl (vW l) (vP (aV kR (kP l) 4) (aQ kR (kP l) 4))]))] 5 ⟨eK, (u5p kR 4 (kP l) (by first | omega | with_reducible assumption | (simp only [k8, kZ, ka6, ka9, kb1, kb0, kb2, kb4, kb9] <;> omega) | rfl | assumption) zo zo (aM (aB (qJ : Byt (kD (kD l 7) 3)) _)))⟩ ?_
  refine AW.seq ?_
  have hx8 : ((((((kA (vE kR (kP l) 4) 3) : Nat) : Int) < 3) ∨ ((kA (vE kR (kP l) 4) 3) = 0)) ∧ ((kA (vE kR (kP l) 4) 3) ≤ 255)) := uN (vE kR (kP l) 4) (3 : Int) ((aM (aM (aB (qJ : Byt (kD (kD l 7) 3)) _))))
  have hx9 : (Byt (yX l)) := qR (3 : Int) ((aM (aM (aB (qJ : Byt (kD (kD l 7) 3)) _))))
  refine kK [.no, .call [0] (uV (kA (vE kR (kP l) 4) 3)) [(0, some (70, .ds [db (yX l) (ka0 (yX l))]))] 1 [] none, .w, .no] ((_) ∧ (yQ (1 + (kA (vE kR (kP l) 4) 3 : Int)))) [(0, rV 0 0), (2, rV 1 0), (3, rV 2 0), (5, iV (1 + (kA (vE kR (kP l) 4) 3 : Int)))] [(0, some (70, .ds [db (yX l) (ka0 (yX l))])), (1, some (63, u7)), (2, some (63, .ds [iD y, dl (vM l) (vP (aV uF (uB l) 5) (aQ uF (uB l) 5)), qQ, dl (vW l) (vP (aV kR (kP l) 4) (aQ kR (kP l) 4))]))] 5 ⟨(c5 (vE kR (kP l) 4) 3 (aM (aM (aB (qJ : Byt (kD (kD l 7) 3)) _)))), ⟨by omega, by omega⟩⟩ ?_
  refine AW.block ?_
  refine k53 2 2 1 38 (cs' := [iC y, .d (dl (vM l) (vP (aV uF (uB l) 5) (aQ uF (uB l) 5))), .own 5 0 0 1 true, .d (dl (vW l) (vP (aV kR (kP l) 4) (aQ kR (kP l) 4)))]) rfl rfl rfl ?_
  refine qH 1 hcx (fun (x : {x : Nat × Nat × List (List Int) // match x with | (i2, q, ms) => (i2 ≤ 1 + kA (vE kR (kP l) 4) 3) ∧ (oM (yX l) i2 = ms) ∧ (ka0 ms = q ∧ q ≤ i2) ∧ (MsN ms) ∧ (MsW ms)}) => match x with | ⟨(i2, q, ms), _⟩ => (⟨[(0, rV 0 0), (2, rV 1 0), (3, rV 2 0), (5, iV ((((1 + (kA (vE kR (kP l) 4) 3)) : Nat) : Int) - (i2 : Int)))], [(0, some (70, .ds [db (kQ l i2) (ka0 (kQ l i2))])), (1, some (63, u7)), (2, some (63, (aF y l q))), (6, some (38, .ds (kL ms)))], 7⟩ : ES)) (fun x => match x with | ⟨(i2, q, ms), _⟩ => 1 + kA (vE kR (kP l) 4) 3 - i2) ⟨((0 : Nat), (0 : Nat), (([] : List (List Int)) : List (List Int))), ⟨dO, rfl, ⟨rfl, by omega⟩, MsN.nil, MsW.nil⟩⟩ [(6, 5)] (P := (kJ 0) ∧ (kJ 0) ∧ (kJ 0) ∧ ((((((1 + (kA (vE kR (kP l) 4) 3)) : Nat) : Int) - 0) : Int) = (1 + (kA (vE kR (kP l) 4) 3 : Int))) ∧ (([db (oN (yX l) 0) (ka0 (oN (yX l) 0))] : List D) = [db (yX l) (ka0 (yX l))]) ∧ (kN [iD 0, qQ, qQ, qQ]) ∧ (kS y) ∧ (kN (dI .i64 (vM l))) ∧ (kJ (vP (aV uF (uB l) 5) (aQ uF (uB l) 5))) ∧ (kJ 0) ∧ (kJ 0) ∧ (kN (dI .i64 (vW l))) ∧ (kJ (vP (aV kR (kP l) 4) (aQ kR (kP l) 4))) ∧ (((kL ([] : List (List Int))) : List D) = ([] : List D))) zk ⟨rfl, rfl, rfl, eJ, (by first | rfl | with_reducible assumption), rfl, rfl, rfl, rfl, rfl, rfl, rfl, rfl, (by first | rfl | with_reducible assumption)⟩ ?_
  rintro ⟨⟨i2, q, ms⟩, hinv1⟩
  obtain ⟨hi2, hm, hq, hN, hW⟩ : (i2 ≤ 1 + kA (vE kR (kP l) 4) 3) ∧ (oM (yX l) i2 = ms) ∧ (ka0 ms = q ∧ q ≤ i2) ∧ (MsN ms) ∧ (MsW ms) := hinv1
  refine uL (l := [(0, rV 0 0), (2, rV 1 0), (3, rV 2 0), (5, iV ((((1 + (kA (vE kR (kP l) 4) 3)) : Nat) : Int) - (i2 : Int)))]) (g := [(0, some (70, .ds [db (kQ l i2) (ka0 (kQ l i2))])), (1, some (63, u7)), (2, some (63, (aF y l q))), (6, some (38, .ds (kL ms)))]) (nx := 7) rfl rfl rfl ?_
  refine AW.seq ?_
  by_cases hx10 : ((0 : Int) < ((((1 + (kA (vE kR (kP l) 4) 3)) : Nat) : Int) - ((i2 : Nat) : Int)))
  ·refine kK [.no, .b true] (((0 : Int) < ((((1 + (kA (vE kR (kP l) 4) 3)) : Nat) : Int) - (i2 : Int)))) [(0, rV 0 0), (2, rV 1 0), (3, rV 2 0), (5, iV ((((1 + (kA (vE kR (kP l) 4) 3)) : Nat) : Int) - ↑i2)), (50, bV true)] [(0, some (70, .ds [db (kQ l i2) (ka0 (kQ l i2))])), (1, some (63, u7)), (2, some (63, (aF y l q))), (6, some (38, .ds (kL ms)))] 7 zo ?_
   refine vR ?_
   refine AW.seq ?_
   refine AW.block ?_
   have hx11 : (((1 : Nat) ≤ (ka0 (yU (kQ l i2)))) ∧ ((ka0 (yU (kQ l i2))) ≤ 6)) := (u1f ((i0 (qJ : Byt (yX l)) _)))
   refine kK [.no, .call [0] (sV .i64 (yU (kQ l i2)) (ka0 (yU (kQ l i2)))) [(0, some (70, (v8 l i2)))] 1 [] none, .no] _ [(0, rV 0 0), (2, rV 1 0), (3, rV 2 0), (5, iV ((((1 + (kA (vE kR (kP l) 4) 3)) : Nat) : Int) - ↑i2)), (6, sV .i64 (yU (kQ l i2)) (ka0 (yU (kQ l i2))))] [(0, some (70, (v8 l i2))), (1, some (63, u7)), (2, some (63, (aF y l q))), (6, some (38, .ds (kL ms)))] 7 (v2s (kQ l i2) (i0 (qJ : Byt (yX l)) _)) ?_
   refine kT [.no] True [(0, rV 0 0), (2, rV 1 0), (3, rV 2 0), (5, iV ((((1 + (kA (vE kR (kP l) 4) 3)) : Nat) : Int) - ↑i2)), (6, sV .i64 (yU (kQ l i2)) (ka0 (yU (kQ l i2)))), (7, bV false)] trivial ?_
   refine AW.seq ?_
   refine kT (qN 4 []) True [(0, rV 0 0), (2, rV 1 0), (3, rV 2 0), (5, iV ((((1 + (kA (vE kR (kP l) 4) 3)) : Nat) : Int) - ↑i2)), (6, sV .i64 (yU (kQ l i2)) (ka0 (yU (kQ l i2)))), (7, bV false), (56, oV 6 0 q 1), (57, uV q), (58, iV 0)] trivial ?_
   refine AW.block ?_
   refine qH 1 hcx (fun (x : {x : Nat × Bool // match x with | (j, f) => (j ≤ q) ∧ (oL (ka5 j ms) (yU (kQ l i2)) = f)}) => match x with | ⟨(j, f), _⟩ => (⟨[(0, rV 0 0), (2, rV 1 0), (3, rV 2 0), (5, iV ((((1 + (kA (vE kR (kP l) 4) 3)) : Nat) : Int) - (i2 : Int))), (6, sV .i64 (yU (kQ l i2)) (ka0 (yU (kQ l i2)))), (7, yM (D.lit (.bool (f)))), (56, oV 6 0 q 1), (57, uV q), (58, uV j)], [(0, some (70, (v8 l i2))), (1, some (63, u7)), (2, some (63, (aF y l q))), (6, some (38, .ds (kL ms)))], 7⟩ : ES)) (fun x => match x with | ⟨(j, f), _⟩ => q - j) ⟨((0 : Nat), (false : Bool)), ⟨dO, (v34 _ _)⟩⟩ [] (P := (kJ 0) ∧ (kJ 0) ∧ (kJ 0) ∧ (kS ((((1 + (kA (vE kR (kP l) 4) 3)) : Nat) : Int) - (i2 : Int))) ∧ (kN (dI .i64 (yU (kQ l i2)))) ∧ (kJ (ka0 (yU (kQ l i2)))) ∧ ((false) = false) ∧ (kJ 0) ∧ (kJ q) ∧ (kS (q : Int)) ∧ (kS 0) ∧ (kN [db (kD (kQ l i2) 7) (ka0 (kD (kQ l i2) 7))]) ∧ (kN [iD 0, qQ, qQ, qQ]) ∧ (kS y) ∧ (kN (dI .i64 (vM l))) ∧ (kJ (vP (aV uF (uB l) 5) (aQ uF (uB l) 5))) ∧ (kJ 0) ∧ (kJ q) ∧ (kN (dI .i64 (vW l))) ∧ (kJ (vP (aV kR (kP l) 4) (aQ kR (kP l) 4))) ∧ (kN (kL ms))) zk ⟨rfl, rfl, rfl, rfl, rfl, rfl, m7, rfl, rfl, rfl, rfl, rfl, rfl, rfl, rfl, rfl, rfl, rfl, rfl, rfl, rfl⟩ ?_
   rintro ⟨⟨j, f⟩, hinv2⟩
   obtain ⟨hj, hf⟩ : (j ≤ q) ∧ (oL (ka5 j ms) (yU (kQ l i2)) = f) := hinv2
   refine uL (l := [(0, rV 0 0), (2, rV 1 0), (3, rV 2 0), (5, iV ((((1 + (kA (vE kR (kP l) 4) 3)) : Nat) : Int) - (i2 : Int))), (6, sV .i64 (yU (kQ l i2)) (ka0 (yU (kQ l i2)))), (7, yM (D.lit (.bool (f)))), (56, oV 6 0 q 1), (57, uV q), (58, uV j)]) (g := [(0, some (70, (v8 l i2))), (1, some (63, u7)), (2, some (63, (aF y l q))), (6, some (38, .ds (kL ms)))]) (nx := 7) rfl rfl rfl ?_
   by_cases hx12 : (((j : Nat) : Int) < ((q : Nat) : Int))
   ·refine kK [.b true] (((j : Int) < (q : Int))) [(0, rV 0 0), (2, rV 1 0), (3, rV 2 0), (5, iV ((((1 + (kA (vE kR (kP l) 4) 3)) : Nat) : Int) - ↑i2)), (6, sV .i64 (yU (kQ l i2)) (ka0 (yU (kQ l i2)))), (7, yM (D.lit (.bool (f)))), (56, oV 6 0 q 1), (57, uV q), (58, uV j), (59, bV true)] [(0, some (70, (v8 l i2))), (1, some (63, u7)), (2, some (63, (aF y l q))), (6, some (38, .ds (kL ms)))] 7 zo ?_
    refine AW.seq ?_
    refine vR ?_
    refine AW.seq ?_
    refine AW.block ?_
    have hx13 : ((ka0 (ka1 ms j ([] : List Int))) ≤ 1000000) := MsW.at (qJ : MsW ms) _
    refine kT [.n2 j j, .d (dl (ka1 ms j ([] : List Int)) (ka0 (ka1 ms j ([] : List Int)))), .no] ((kS (j : Int)) ∧ (j < q) ∧ ((0 : Nat) + j * 1 = j) ∧ ((kL ms)[j]? = some (dl (ka1 ms j ([] : List Int)) (ka0 (ka1 ms j ([] : List Int)))))) [(0, rV 0 0), (2, rV 1 0), (3, rV 2 0), (5, iV ((((1 + (kA (vE kR (kP l) 4) 3)) : Nat) : Int) - ↑i2)), (6, sV .i64 (yU (kQ l i2)) (ka0 (yU (kQ l i2)))), (7, yM (D.lit (.bool (f)))), (9, sV .i64 (ka1 ms j ([] : List Int)) (ka0 (ka1 ms j ([] : List Int)))), (56, oV 6 0 q 1), (57, uV q), (58, uV j)] ⟨rfl, zo, zo, (u1c _ _ (by first | omega | (simp only [k8, kZ, ka6, ka9, kb1, kb0, kb2] <;> omega)))⟩ ?_
    rcases Bool.eq_false_or_eq_true (f) with hx15 | hx15
    ·subst hx15
     have hx16 : 1 ≤ ka0 (ka1 ms j ([] : List Int)) := hN.at zo
     refine aG (qN 4 []) True [(0, rV 0 0), (2, rV 1 0), (3, rV 2 0), (5, iV ((((1 + (kA (vE kR (kP l) 4) 3)) : Nat) : Int) - ↑i2)), (6, sV .i64 (yU (kQ l i2)) (ka0 (yU (kQ l i2)))), (7, bV true), (56, oV 6 0 q 1), (57, uV q), (58, uV j)] [(0, some (70, (v8 l i2))), (1, some (63, u7)), (2, some (63, (aF y l q))), (6, some (38, .ds (kL ms)))] 7 trivial ?_
     refine yT [.w, .no] (yQ ((j : Int) + 1)) [(0, rV 0 0), (2, rV 1 0), (3, rV 2 0), (5, iV ((((1 + (kA (vE kR (kP l) 4) 3)) : Nat) : Int) - ↑i2)), (6, sV .i64 (yU (kQ l i2)) (ka0 (yU (kQ l i2)))), (7, bV true), (56, oV 6 0 q 1), (57, uV q), (58, iV (↑j + 1))] ⟨by omega, by omega⟩ ?_
     exact qE ⟨(((j + 1) : Nat), (true : Bool)), ⟨dO, (by first | exact u0v zo hf | exact u0x zo zo | exact u0w zo hf zo)⟩⟩ [] (P := (kJ 0) ∧ (kJ 0) ∧ (kJ 0) ∧ (kS ((((1 + (kA (vE kR (kP l) 4) 3)) : Nat) : Int) - (i2 : Int))) ∧ (kN (dI .i64 (yU (kQ l i2)))) ∧ (kJ (ka0 (yU (kQ l i2)))) ∧ ((true) = true) ∧ (kJ 0) ∧ (kJ q) ∧ (kS (q : Int)) ∧ (c7 j) ∧ (kN [db (kD (kQ l i2) 7) (ka0 (kD (kQ l i2) 7))]) ∧ (kN [iD 0, qQ, qQ, qQ]) ∧ (kS y) ∧ (kN (dI .i64 (vM l))) ∧ (kJ (vP (aV uF (uB l) 5) (aQ uF (uB l) 5))) ∧ (kJ 0) ∧ (kJ q) ∧ (kN (dI .i64 (vW l))) ∧ (kJ (vP (aV kR (kP l) 4) (aQ kR (kP l) 4))) ∧ (kN (kL ms))) zk ⟨rfl, rfl, rfl, rfl, rfl, rfl, m7, rfl, rfl, rfl, eJ, rfl, rfl, rfl, rfl, rfl, rfl, rfl, rfl, rfl, rfl⟩ (show q - (j + 1) < q - j from gZ)
    ·subst hx15
     by_cases hx18 : ((((ka0 (ka1 ms j ([] : List Int))) : Nat) : Int) = (((ka0 (yU (kQ l i2))) : Nat) : Int))
     ·by_cases hx20 : ((ka1 (ka1 ms j ([] : List Int)) 0 0) = (ka1 (yU (kQ l i2)) 0 0))
      ·have hx21 : 1 ≤ ka0 (ka1 ms j ([] : List Int)) := hN.at zo
       refine aG (qN 6 [.b true, .no, .no, .n 0, .d (D.lit (.int .i64 (ka1 (ka1 ms j ([] : List Int)) 0 0))), .no, .n 0, .d (D.lit (.int .i64 (ka1 (yU (kQ l i2)) 0 0))), .b true, .no, .no, .no]) ((((((ka0 (ka1 ms j ([] : List Int))) : Nat) : Int) = (ka0 (yU (kQ l i2)) : Int))) ∧ (kS 0) ∧ ((0 : Nat) < (ka0 (ka1 ms j ([] : List Int)))) ∧ ((ka3 0 (dI .i64 (ka1 ms j ([] : List Int))))[0]? = some (D.lit (.int .i64 (ka1 (ka1 ms j ([] : List Int)) 0 0)))) ∧ (kS 0) ∧ ((0 : Nat) < (ka0 (yU (kQ l i2)))) ∧ ((ka3 0 (dI .i64 (yU (kQ l i2))))[0]? = some (D.lit (.int .i64 (ka1 (yU (kQ l i2)) 0 0)))) ∧ (((ka1 (ka1 ms j ([] : List Int)) 0 0) = (ka1 (yU (kQ l i2)) 0 0)))) [(0, rV 0 0), (2, rV 1 0), (3, rV 2 0), (5, iV ((((1 + (kA (vE kR (kP l) 4) 3)) : Nat) : Int) - ↑i2)), (6, sV .i64 (yU (kQ l i2)) (ka0 (yU (kQ l i2)))), (7, bV true), (56, oV 6 0 q 1), (57, uV q), (58, uV j)] [(0, some (70, (v8 l i2))), (1, some (63, u7)), (2, some (63, (aF y l q))), (6, some (38, .ds (kL ms)))] 7 ⟨zo, rfl, zo, (yJ _ _ _ eK), rfl, zo, (yJ _ _ _ eK), zo⟩ ?_
       refine yT [.w, .no] (yQ ((j : Int) + 1)) [(0, rV 0 0), (2, rV 1 0), (3, rV 2 0), (5, iV ((((1 + (kA (vE kR (kP l) 4) 3)) : Nat) : Int) - ↑i2)), (6, sV .i64 (yU (kQ l i2)) (ka0 (yU (kQ l i2)))), (7, bV true), (56, oV 6 0 q 1), (57, uV q), (58, iV (↑j + 1))] ⟨by omega, by omega⟩ ?_
       exact qE ⟨(((j + 1) : Nat), (true : Bool)), ⟨dO, (by first | exact u0v zo hf | exact u0x zo zo | exact u0w zo hf zo)⟩⟩ [] (P := (kJ 0) ∧ (kJ 0) ∧ (kJ 0) ∧ (kS ((((1 + (kA (vE kR (kP l) 4) 3)) : Nat) : Int) - (i2 : Int))) ∧ (kN (dI .i64 (yU (kQ l i2)))) ∧ (kJ (ka0 (yU (kQ l i2)))) ∧ ((true) = true) ∧ (kJ 0) ∧ (kJ q) ∧ (kS (q : Int)) ∧ (c7 j) ∧ (kN [db (kD (kQ l i2) 7) (ka0 (kD (kQ l i2) 7))]) ∧ (kN [iD 0, qQ, qQ, qQ]) ∧ (kS y) ∧ (kN (dI .i64 (vM l))) ∧ (kJ (vP (aV uF (uB l) 5) (aQ uF (uB l) 5))) ∧ (kJ 0) ∧ (kJ q) ∧ (kN (dI .i64 (vW l))) ∧ (kJ (vP (aV kR (kP l) 4) (aQ kR (kP l) 4))) ∧ (kN (kL ms))) zk ⟨rfl, rfl, rfl, rfl, rfl, rfl, m7, rfl, rfl, rfl, eJ, rfl, rfl, rfl, rfl, rfl, rfl, rfl, rfl, rfl, rfl⟩ (show q - (j + 1) < q - j from gZ)
      ·have hx22 : 1 ≤ ka0 (ka1 ms j ([] : List Int)) := hN.at zo
       refine aG (qN 6 [.b true, .no, .no, .n 0, .d (D.lit (.int .i64 (ka1 (ka1 ms j ([] : List Int)) 0 0))), .no, .n 0, .d (D.lit (.int .i64 (ka1 (yU (kQ l i2)) 0 0))), .b false, .no, .no, .no]) ((((((ka0 (ka1 ms j ([] : List Int))) : Nat) : Int) = (ka0 (yU (kQ l i2)) : Int))) ∧ (kS 0) ∧ ((0 : Nat) < (ka0 (ka1 ms j ([] : List Int)))) ∧ ((ka3 0 (dI .i64 (ka1 ms j ([] : List Int))))[0]? = some (D.lit (.int .i64 (ka1 (ka1 ms j ([] : List Int)) 0 0)))) ∧ (kS 0) ∧ ((0 : Nat) < (ka0 (yU (kQ l i2)))) ∧ ((ka3 0 (dI .i64 (yU (kQ l i2))))[0]? = some (D.lit (.int .i64 (ka1 (yU (kQ l i2)) 0 0)))) ∧ (¬ ((ka1 (ka1 ms j ([] : List Int)) 0 0) = (ka1 (yU (kQ l i2)) 0 0)))) [(0, rV 0 0), (2, rV 1 0), (3, rV 2 0), (5, iV ((((1 + (kA (vE kR (kP l) 4) 3)) : Nat) : Int) - ↑i2)), (6, sV .i64 (yU (kQ l i2)) (ka0 (yU (kQ l i2)))), (7, bV false), (56, oV 6 0 q 1), (57, uV q), (58, uV j)] [(0, some (70, (v8 l i2))), (1, some (63, u7)), (2, some (63, (aF y l q))), (6, some (38, .ds (kL ms)))] 7 ⟨zo, rfl, zo, (yJ _ _ _ eK), rfl, zo, (yJ _ _ _ eK), zo⟩ ?_
       refine yT [.w, .no] (yQ ((j : Int) + 1)) [(0, rV 0 0), (2, rV 1 0), (3, rV 2 0), (5, iV ((((1 + (kA (vE kR (kP l) 4) 3)) : Nat) : Int) - ↑i2)), (6, sV .i64 (yU (kQ l i2)) (ka0 (yU (kQ l i2)))), (7, bV false), (56, oV 6 0 q 1), (57, uV q), (58, iV (↑j + 1))] ⟨by omega, by omega⟩ ?_
       exact qE ⟨(((j + 1) : Nat), (false : Bool)), ⟨dO, (by first | exact u0v zo hf | exact u0x zo zo | exact u0w zo hf zo)⟩⟩ [] (P := (kJ 0) ∧ (kJ 0) ∧ (kJ 0) ∧ (kS ((((1 + (kA (vE kR (kP l) 4) 3)) : Nat) : Int) - (i2 : Int))) ∧ (kN (dI .i64 (yU (kQ l i2)))) ∧ (kJ (ka0 (yU (kQ l i2)))) ∧ ((false) = false) ∧ (kJ 0) ∧ (kJ q) ∧ (kS (q : Int)) ∧ (c7 j) ∧ (kN [db (kD (kQ l i2) 7) (ka0 (kD (kQ l i2) 7))]) ∧ (kN [iD 0, qQ, qQ, qQ]) ∧ (kS y) ∧ (kN (dI .i64 (vM l))) ∧ (kJ (vP (aV uF (uB l) 5) (aQ uF (uB l) 5))) ∧ (kJ 0) ∧ (kJ q) ∧ (kN (dI .i64 (vW l))) ∧ (kJ (vP (aV kR (kP l) 4) (aQ kR (kP l) 4))) ∧ (kN (kL ms))) zk ⟨rfl, rfl, rfl, rfl, rfl, rfl, m7, rfl, rfl, rfl, eJ, rfl, rfl, rfl, rfl, rfl, rfl, rfl, rfl, rfl, rfl⟩ (show q - (j + 1) < q - j from gZ)
     ·have hx23 : 1 ≤ ka0 (ka1 ms j ([] : List Int)) := hN.at zo
      refine aG (qN 6 (.b false :: qN 4 [])) (¬ ((((ka0 (ka1 ms j ([] : List Int))) : Nat) : Int) = (ka0 (yU (kQ l i2)) : Int))) [(0, rV 0 0), (2, rV 1 0), (3, rV 2 0), (5, iV ((((1 + (kA (vE kR (kP l) 4) 3)) : Nat) : Int) - ↑i2)), (6, sV .i64 (yU (kQ l i2)) (ka0 (yU (kQ l i2)))), (7, bV false), (56, oV 6 0 q 1), (57, uV q), (58, uV j)] [(0, some (70, (v8 l i2))), (1, some (63, u7)), (2, some (63, (aF y l q))), (6, some (38, .ds (kL ms)))] 7 zo ?_
      refine yT [.w, .no] (yQ ((j : Int) + 1)) [(0, rV 0 0), (2, rV 1 0), (3, rV 2 0), (5, iV ((((1 + (kA (vE kR (kP l) 4) 3)) : Nat) : Int) - ↑i2)), (6, sV .i64 (yU (kQ l i2)) (ka0 (yU (kQ l i2)))), (7, bV false), (56, oV 6 0 q 1), (57, uV q), (58, iV (↑j + 1))] ⟨by omega, by omega⟩ ?_
      exact qE ⟨(((j + 1) : Nat), (false : Bool)), ⟨dO, (by first | exact u0v zo hf | exact u0x zo zo | exact u0w zo hf zo)⟩⟩ [] (P := (kJ 0) ∧ (kJ 0) ∧ (kJ 0) ∧ (kS ((((1 + (kA (vE kR (kP l) 4) 3)) : Nat) : Int) - (i2 : Int))) ∧ (kN (dI .i64 (yU (kQ l i2)))) ∧ (kJ (ka0 (yU (kQ l i2)))) ∧ ((false) = false) ∧ (kJ 0) ∧ (kJ q) ∧ (kS (q : Int)) ∧ (c7 j) ∧ (kN [db (kD (kQ l i2) 7) (ka0 (kD (kQ l i2) 7))]) ∧ (kN [iD 0, qQ, qQ, qQ]) ∧ (kS y) ∧ (kN (dI .i64 (vM l))) ∧ (kJ (vP (aV uF (uB l) 5) (aQ uF (uB l) 5))) ∧ (kJ 0) ∧ (kJ q) ∧ (kN (dI .i64 (vW l))) ∧ (kJ (vP (aV kR (kP l) 4) (aQ kR (kP l) 4))) ∧ (kN (kL ms))) zk ⟨rfl, rfl, rfl, rfl, rfl, rfl, m7, rfl, rfl, rfl, eJ, rfl, rfl, rfl, rfl, rfl, rfl, rfl, rfl, rfl, rfl⟩ (show q - (j + 1) < q - j from gZ)
   ·refine kK [.b false] (¬ ((j : Int) < (q : Int))) [(0, rV 0 0), (2, rV 1 0), (3, rV 2 0), (5, iV ((((1 + (kA (vE kR (kP l) 4) 3)) : Nat) : Int) - ↑i2)), (6, sV .i64 (yU (kQ l i2)) (ka0 (yU (kQ l i2)))), (7, yM (D.lit (.bool (f)))), (56, oV 6 0 q 1), (57, uV q), (58, uV j), (59, bV false)] [(0, some (70, (v8 l i2))), (1, some (63, u7)), (2, some (63, (aF y l q))), (6, some (38, .ds (kL ms)))] 7 zo ?_
    refine AW.seq ?_
    refine zf ?_
    refine AW.exit ?_
    rcases Bool.eq_false_or_eq_true (f) with hx24 | hx24
    ·subst hx24
     refine kK [.no, .no] True [(0, rV 0 0), (2, rV 1 0), (3, rV 2 0), (5, iV ((((1 + (kA (vE kR (kP l) 4) 3)) : Nat) : Int) - ↑i2)), (6, sV .i64 (yU (kQ l i2)) (ka0 (yU (kQ l i2)))), (81, bV false)] [(0, some (70, (v8 l i2))), (1, some (63, u7)), (2, some (63, (aF y l q))), (6, some (38, .ds (kL ms)))] 7 trivial ?_
     refine yA ?_
     refine yT [.no, .w, .no] ((-9223372036854775808) ≤ (((((1 + (kA (vE kR (kP l) 4) 3)) : Nat) : Int) - (i2 : Int)) - 1) ∧ (((((1 + (kA (vE kR (kP l) 4) 3)) : Nat) : Int) - (i2 : Int)) - 1) ≤ 9223372036854775807) [(0, rV 0 0), (2, rV 1 0), (3, rV 2 0), (5, iV (((((1 + (kA (vE kR (kP l) 4) 3)) : Nat) : Int) - ↑i2) - 1))] ⟨by omega, by omega⟩ ?_
     exact qE ⟨(((i2 + 1) : Nat), (q : Nat), (ms : List (List Int))), ⟨dO, (by first | exact v0k hm (sB hq.1 zo hf) | exact v0n hm (sB hq.1 zo hf)), (by first | omega | (simp only [k8, kZ, ka6, ka9, kb1] <;> omega)), (by first | assumption | exact hN.snoc zo), (by first | assumption | exact hW.snoc (ke0 (s5 _) zo))⟩⟩ [] (P := (kJ 0) ∧ (kJ 0) ∧ (kJ 0) ∧ ((((((1 + (kA (vE kR (kP l) 4) 3)) : Nat) : Int) - (((i2 + 1) : Nat) : Int)) : Int) = (((((1 + (kA (vE kR (kP l) 4) 3)) : Nat) : Int) - (i2 : Int)) - 1)) ∧ (([db (oN (yX l) (i2 + 1)) (ka0 (oN (yX l) (i2 + 1)))] : List D) = [db (kD (kQ l i2) 7) (ka0 (kD (kQ l i2) 7))]) ∧ (kN [iD 0, qQ, qQ, qQ]) ∧ (kS y) ∧ (kN (dI .i64 (vM l))) ∧ (kJ (vP (aV uF (uB l) 5) (aQ uF (uB l) 5))) ∧ (kJ 0) ∧ (kJ q) ∧ (kN (dI .i64 (vW l))) ∧ (kJ (vP (aV kR (kP l) 4) (aQ kR (kP l) 4))) ∧ (kN (kL ms))) zk ⟨rfl, rfl, rfl, eJ, (by first | rfl | with_reducible assumption), rfl, rfl, rfl, rfl, rfl, rfl, rfl, rfl, rfl⟩ (show 1 + kA (vE kR (kP l) 4) 3 - (i2 + 1) < 1 + kA (vE kR (kP l) 4) 3 - i2 from gZ)
    ·subst hx24
     refine kK [.no, .no] True [(0, rV 0 0), (2, rV 1 0), (3, rV 2 0), (5, iV ((((1 + (kA (vE kR (kP l) 4) 3)) : Nat) : Int) - ↑i2)), (6, sV .i64 (yU (kQ l i2)) (ka0 (yU (kQ l i2)))), (81, bV true)] [(0, some (70, (v8 l i2))), (1, some (63, u7)), (2, some (63, (aF y l q))), (6, some (38, .ds (kL ms)))] 7 trivial ?_
     refine zt ?_
     refine aG (qN 4 [.ap none (q + 1) (kL (ms ++ ([(yU (kQ l i2))] : List (List Int)))), .no, .no]) (([dl (yU (kQ l i2)) (ka0 (yU (kQ l i2)))].length = 1 * 1) ∧ (((kL ms) : List D).length = q * 1) ∧ ((q + 1) * 24 ≤ 140737488355328) ∧ (q + 1 = (q + 1)) ∧ (((kL ms) : List D) ++ [dl (yU (kQ l i2)) (ka0 (yU (kQ l i2)))] = (kL (ms ++ ([(yU (kQ l i2))] : List (List Int)))))) [(0, rV 0 0), (2, rV 1 0), (3, rV 2 0), (5, iV ((((1 + (kA (vE kR (kP l) 4) 3)) : Nat) : Int) - ↑i2))] [(0, some (70, (v8 l i2))), (1, some (63, u7)), (2, some (63, .cs [iC y, .d (dl (vM l) (vP (aV uF (uB l) 5) (aQ uF (uB l) 5))), .own 8 0 (q + 1) 1 true, .d (dl (vW l) (vP (aV kR (kP l) 4) (aQ kR (kP l) 4)))])), (8, some (38, .ds (kL (ms ++ ([(yU (kQ l i2))] : List (List Int))))))] 9 ⟨eK, eK, zo, zo, (sW ms (yU (kQ l i2)) (ka0 (yU (kQ l i2))) (by first | rfl | omega))⟩ ?_
     refine yT [.no, .w, .no] ((-9223372036854775808) ≤ (((((1 + (kA (vE kR (kP l) 4) 3)) : Nat) : Int) - (i2 : Int)) - 1) ∧ (((((1 + (kA (vE kR (kP l) 4) 3)) : Nat) : Int) - (i2 : Int)) - 1) ≤ 9223372036854775807) [(0, rV 0 0), (2, rV 1 0), (3, rV 2 0), (5, iV (((((1 + (kA (vE kR (kP l) 4) 3)) : Nat) : Int) - ↑i2) - 1))] ⟨by omega, by omega⟩ ?_
     exact qE ⟨(((i2 + 1) : Nat), ((q + 1) : Nat), ((ms ++ ([(yU (kQ l i2))] : List (List Int))) : List (List Int))), ⟨dO, (by first | exact v0k hm (sB hq.1 zo hf) | exact v0n hm (sB hq.1 zo hf)), (by first | omega | (simp only [k8, kZ, ka6, ka9, kb1] <;> omega)), (by first | assumption | exact hN.snoc zo), (by first | assumption | exact hW.snoc (ke0 (s5 _) zo))⟩⟩ [(6, 8)] (P := (kJ 0) ∧ (kJ 0) ∧ (kJ 0) ∧ ((((((1 + (kA (vE kR (kP l) 4) 3)) : Nat) : Int) - (((i2 + 1) : Nat) : Int)) : Int) = (((((1 + (kA (vE kR (kP l) 4) 3)) : Nat) : Int) - (i2 : Int)) - 1)) ∧ (([db (oN (yX l) (i2 + 1)) (ka0 (oN (yX l) (i2 + 1)))] : List D) = [db (kD (kQ l i2) 7) (ka0 (kD (kQ l i2) 7))]) ∧ (kN [iD 0, qQ, qQ, qQ]) ∧ (kS y) ∧ (kN (dI .i64 (vM l))) ∧ (kJ (vP (aV uF (uB l) 5) (aQ uF (uB l) 5))) ∧ (kJ 0) ∧ (kJ (q + 1)) ∧ (kN (dI .i64 (vW l))) ∧ (kJ (vP (aV kR (kP l) 4) (aQ kR (kP l) 4))) ∧ (kN (kL (ms ++ ([(yU (kQ l i2))] : List (List Int)))))) zk ⟨rfl, rfl, rfl, eJ, (by first | rfl | with_reducible assumption), rfl, rfl, rfl, rfl, rfl, rfl, rfl, rfl, rfl⟩ (show 1 + kA (vE kR (kP l) 4) 3 - (i2 + 1) < 1 + kA (vE kR (kP l) 4) 3 - i2 from gZ)
  ·refine kK [.no, .b false] (¬ ((0 : Int) < ((((1 + (kA (vE kR (kP l) 4) 3)) : Nat) : Int) - (i2 : Int)))) [(0, rV 0 0), (2, rV 1 0), (3, rV 2 0), (5, iV ((((1 + (kA (vE kR (kP l) 4) 3)) : Nat) : Int) - ↑i2)), (50, bV false)] [(0, some (70, .ds [db (kQ l i2) (ka0 (kQ l i2))])), (1, some (63, u7)), (2, some (63, (aF y l q))), (6, some (38, .ds (kL ms)))] 7 zo ?_
   refine zf ?_
   refine AW.exit ?_
   refine kK [.no, .no] True [(2, rV 1 0)] [(0, some (70, .ds [db (kQ l i2) (ka0 (kQ l i2))])), (1, some (63, (aF y l q))), (6, some (38, .ds (kL ms)))] 7 trivial ?_
   obtain rfl : i2 = (1 + (kA (vE kR (kP l) 4) 3)) := (by omega)
   refine AW.freeze 6 (l' := [(2, rV 1 0)]) (g' := [(0, some (70, .ds [db (oN (yX l) (1 + (kA (vE kR (kP l) 4) 3))) (ka0 (oN (yX l) (1 + (kA (vE kR (kP l) 4) 3))))])), (1, some (63, .ds [iD y, dl (vM l) (vP (aV uF (uB l) 5) (aQ uF (uB l) 5)), D.sl (kL ms) q, dl (vW l) (vP (aV kR (kP l) 4) (aQ kR (kP l) 4))]))]) rfl (FzS.cons rfl (.same _) FzS.nil) (yW rfl rfl (FzG.to (bc := .cs [iC y, .d (dl (vM l) (vP (aV uF (uB l) 5) (aQ uF (uB l) 5))), .own 6 0 q 1 true, .d (dl (vW l) (vP (aV kR (kP l) 4) (aQ kR (kP l) 4)))]) rfl (by rfl) (FzL.cons (.same _) (FzL.cons (.same _) (FzL.cons (@FzC.own 6 ((kL ms) : List D) 0 q 1 true ((kL ms) : List D) (by rw [List.drop_zero, kc7, kb8 (by first | omega | (simp only [k8, kZ, qW, ka6, ka9, kb1, kb0, kb2, kb4, kb9, kc4, kc1, kc7] <;> omega))]) eK) (FzL.cons (.same _) FzL.nil)))) FzG.nil)) ?_
   have hz1 : zQ l = y := hy
   have hz2 : mB l = ms := hm
   refine AW.ret ?_
   exact kB (.inr rfl) [] (P := (((zQ l) : Int) = y) ∧ (((dI .i64 (zP l)) : List D) = (dI .i64 (vM l))) ∧ (((wO l) : Nat) = (vP (aV uF (uB l) 5) (aQ uF (uB l) 5))) ∧ (((kL (mB l)) : List D) = (kL ms)) ∧ (((ka0 (mB l)) : Nat) = q) ∧ (((dI .i64 (zO l)) : List D) = (dI .i64 (vW l))) ∧ (((wN l) : Nat) = (vP (aV kR (kP l) 4) (aQ kR (kP l) 4))) ∧ (([db (boD l) (ka0 (boD l))] : List D) = [db (oN (yX l) (1 + (kA (vE kR (kP l) 4) 3))) (ka0 (oN (yX l) (1 + (kA (vE kR (kP l) 4) 3))))])) zk ⟨(by first | rfl | exact hz1 | (rw [hz2]; omega) | omega), (by first | rfl | (rw [hz2]; done) | (rw [hz2]; rfl)), (by first | rfl | exact hz1 | (rw [hz2]; omega) | omega), (by first | rfl | (rw [hz2]; done) | (rw [hz2]; rfl)), (by first | rfl | exact hz1 | (rw [hz2]; omega) | omega), (by first | rfl | (rw [hz2]; done) | (rw [hz2]; rfl)), (by first | rfl | exact hz1 | (rw [hz2]; omega) | omega), (by first | rfl | (rw [hz2]; done) | (rw [hz2]; rfl))⟩
end Go.Proofs.YtbicifcgghmhaaaGreat
