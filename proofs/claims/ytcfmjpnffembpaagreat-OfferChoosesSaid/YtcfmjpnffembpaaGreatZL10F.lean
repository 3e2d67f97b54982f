/- Boxes out of dice. No statement is proved here. -/
import Derived.Test.YtcfmjpnffembpaaGreatZL10E
namespace Go.Proofs.YtcfmjpnffembpaaGreat
open Go.ChangeShapes Go.WideShapes Go.ChangeAt Go.RowKit
open List renaming drop → ka4, getD → ka1, getD_eq_getElem?_getD → ka7, getElem?_eq_getElem → kb1, length → ka0, length_append → ka6, length_cons → ka8, length_drop → kb0, length_map → kc0, length_nil → kb3, length_replicate → kb4, length_reverse → kc1, length_set → kb8, length_take → ka9, take → ka3, take_of_length_le → kb7
open Nat renaming le_trans → kg9, mul_one → kc5
set_option linter.unusedVariables false
set_option linter.unusedSimpArgs false
set_option maxHeartbeats 4000000
set_option maxRecDepth 100000
theorem k8l (xs : List (List Int)) (i : Nat) (h : i < xs.length) : (kJ xs)[i]? = some (D.sl (dI .i64 (ka1 xs i [])) (ka1 xs i []).length) := by
 have := aB xs i h
 rw [List.getElem?_drop, Nat.add_zero] at this; exact this
def kbV (l : List Int) : Int := IntKind.i64.wrap (1 * (((2 ^ (1 + (kA l 7))) : Nat) : Int))
def orI (a b : Int) : Int := qG .or .i64 a b
def d9 (l : List Int) : Nat → List Int
 | 0 => l
 | i + 1 => kC (d9 l i) 7
def knK (l : List Int) (k : Int) : Nat → Int
 | 0 => k
 | i + 1 => orI (knK l k i) (kbV (d9 l i))
theorem bD {l : List Int} (h : Byt l) : ∀ i, Byt (d9 l i)
 | 0 => h
 | i + 1 => qK _ (bD h i)
def thE (x m : List Int) : Bool := decide (ka0 x = ka0 m ∧ ka1 x 0 0 = ka1 m 0 0)
def rK (ms : List (List Int)) (m : List Int) : Bool := ms.any fun x => thE x m
theorem u6i (ms : List (List Int)) (m : List Int) : rK (ka3 0 ms) m = false := rfl
theorem rI {ms : List (List Int)} {m : List Int} {j : Nat} (h : j < ms.length) : rK (ka3 (j + 1) ms) m = (rK (ka3 j ms) m || thE (ka1 ms j []) m) := by
 unfold rK
 rw [ka7, kb1 h, List.take_succ_eq_append_getElem h, List.any_append]
 simp
theorem k81 {ms : List (List Int)} {m : List Int} {j : Nat} (h : j < ms.length) (h1 : rK (ka3 j ms) m = true) : rK (ka3 (j + 1) ms) m = true := by
 rw [rI h, h1]; rfl
theorem k83 {ms : List (List Int)} {m : List Int} {j : Nat} (h : j < ms.length) (h1 : ka0 (ka1 ms j []) = ka0 m ∧ ka1 (ka1 ms j []) 0 0 = ka1 m 0 0) : rK (ka3 (j + 1) ms) m = true := by
 rw [rI h, show thE (ka1 ms j []) m = true from decide_eq_true h1, Bool.or_true]
theorem k82 {ms : List (List Int)} {m : List Int} {j : Nat} (h : j < ms.length) (h0 : rK (ka3 j ms) m = false) (h1 : ¬ (ka0 (ka1 ms j []) = ka0 m ∧ ka1 (ka1 ms j []) 0 0 = ka1 m 0 0)) : rK (ka3 (j + 1) ms) m = false := by
 rw [rI h, h0, show thE (ka1 ms j []) m = false from decide_eq_false h1]; rfl
def oK (l : List Int) : Nat → List Int
 | 0 => l
 | i + 1 => kC (oK l i) 7
def xP (l : List Int) : Nat → List (List Int)
 | 0 => []
 | i + 1 => if rK (xP l i) (yB (oK l i)) = true then xP l i else xP l i ++ [yB (oK l i)]
theorem mN {l : List Int} (h : Byt l) : ∀ i, Byt (oK l i)
 | 0 => h
 | i + 1 => qK _ (mN h i)
theorem u4o {l : List Int} {i : Nat} {ms : List (List Int)} (h : xP l i = ms) (h1 : rK ms (yB (oK l i)) = true) : xP l (i + 1) = ms := by
 subst h; exact if_pos h1
theorem u4p {l : List Int} {i : Nat} {ms : List (List Int)} (h : xP l i = ms) (h1 : rK ms (yB (oK l i)) = false) : xP l (i + 1) = ms ++ [yB (oK l i)] := by
 subst h; exact if_neg (by rw [h1]; decide)
theorem u70 {l : List Int} {k : Int} {i : Nat} {y x : Int} (h : knK l k i = y) (hx : x = orI y (kbV (d9 l i))) : knK l k (i + 1) = x := by
 subst h; rw [hx]; rfl
theorem rJ {ms : List (List Int)} {m : List Int} {j c : Nat} {f : Bool} (hc : ms.length = c) (hj : c ≤ j) (h : rK (ka3 j ms) m = f) : rK ms m = f := by
 rw [kb7 (by omega)] at h; exact h
theorem k54 (l : List Int) : ∀ i, MsW (xP l i)
 | 0 => MsW.nil
 | i + 1 => by
  rw [xP]; split
  ·exact k54 l i
  ·exact (k54 l i).snoc (kg9 (r8 _) (by omega))
theorem k53 (l : List Int) : ∀ i, ka0 (xP l i) ≤ i
 | 0 => Nat.le_refl _
 | i + 1 => by
  have := k53 l i
  rw [xP]; split
  ·omega
  ·rw [ka6, List.length_singleton]; omega
def bo1 (l : List Int) : List Int := kC (kC l 7) 3
def bo2 (l : List Int) : List Int := d9 (bo1 l) (kA (kC l 7) 3)
def rtT : List Int := [44100, 44100, 48000, 48000, 8000, 8000, 32000, 50000, 96000, 192000]
def szT : List Int := [16, 64, 64, 1024, 2048, 2048, 1, 65536]
def bo3 (l : List Int) : List Int := yQ rtT (bo2 l) 5
def bo4 (l : List Int) : List Int := yQ szT (bo3 l) 4
def bo5 (l : List Int) : List Int := kC (bo4 l) 3
def boN (l : List Int) : Nat := 1 + kA (bo4 l) 3
def boD (l : List Int) : List Int := oK (bo5 l) (boN l)
def boK (l : List Int) : Int := knK (bo1 l) (kbV l) (kA (kC l 7) 3)
def boR (l : List Int) : List Int := fU (aX rtT (bo2 l) 5) (a6 rtT (bo2 l) 5)
def xV (l : List Int) : Nat := vY (aX rtT (bo2 l) 5) (a6 rtT (bo2 l) 5)
def boS (l : List Int) : List Int := fU (aX szT (bo3 l) 4) (a6 szT (bo3 l) 4)
def xU (l : List Int) : Nat := vY (aX szT (bo3 l) 4) (a6 szT (bo3 l) 4)
def n3 (l : List Int) : List (List Int) := xP (bo5 l) (boN l)
def MsN (xs : List (List Int)) : Prop := ∀ l ∈ xs, 1 ≤ ka0 l
theorem MsN.nil : MsN [] := fun l h => by cases h
theorem MsN.snoc {xs : List (List Int)} {l : List Int} (h : MsN xs) (hl : 1 ≤ ka0 l) : MsN (xs ++ [l]) := fun m hm => (List.mem_append.1 hm).elim (h m) fun hm => by
 rw [List.mem_singleton.1 hm]; exact hl
theorem MsN.at {xs : List (List Int)} (h : MsN xs) {i : Nat} (hi : i < xs.length) : 1 ≤ ka0 (ka1 xs i []) := by
 rw [ka7, kb1 hi]; exact h _ (List.getElem_mem hi)
attribute [local irreducible] aX yQ a6 fU vY kA kC yB rK
abbrev qW := ([44100, 44100, 48000, 48000, 8000, 8000, 32000, 50000, 96000, 192000] : List Int)
abbrev qV (l : List Int) := d9 (kC (kC l 7) 3) (kA (kC l 7) 3)
abbrev kR (l : List Int) := yQ qW (qV l) 5
abbrev kT := ([16, 64, 64, 1024, 2048, 2048, 1, 65536] : List Int)
abbrev yI (l : List Int) := kC (yQ kT (kR l) 4) 3
abbrev kU (l : List Int) (i2 : Nat) := oK (yI l) i2
abbrev vJ (l : List Int) := fU (aX qW (qV l) 5) (a6 qW (qV l) 5)
abbrev vV (l : List Int) := fU (aX kT (kR l) 4) (a6 kT (kR l) 4)
theorem c5 {p : Prop} (h : p := by first | omega | assumption | simp) : p := h
theorem dU {p : Prop} (h : p := by first | rfl | omega | assumption | (simp; done) | (simp; omega)) : p := h
theorem gS {p : Prop} (h : p := by first | omega | (show _ < _; simp; omega)) : p := h
theorem dV {p : Prop} (h : p := by first | omega | (simp only [qC, qB, qX, ka6, ka8, kb3, ka9, kb0, kb4, kb8, kc0, kc1, kc5] <;> omega) | rfl) : p := h
theorem m7 {p : Prop} (h : p := by first | rfl | assumption | simp) : p := h
abbrev v9 (y : Int) (l : List Int) (q : Nat) : BC := .cs [iC y, .d (D.sl (dI .i64 (vJ l)) (vY (aX qW (qV l) 5) (a6 qW (qV l) 5))), .own 6 0 q 1 true, .d (D.sl (dI .i64 (vV l)) (vY (aX kT (kR l) 4) (a6 kT (kR l) 4)))]
abbrev uY : BC := .ds [iD 0, D.lit (.slice none 0 0), D.lit (.slice none 0 0), D.lit (.slice none 0 0)]
abbrev v5 (l : List Int) (i2 : Nat) : BC := .ds [D.sl (dI .u8 (kC (kU l i2) 7)) (ka0 (kC (kU l i2) 7))]
abbrev mJ (l : List Int) (i : Nat) : BC := .ds [D.sl (dI .u8 (d9 (kC (kC l 7) 3) i)) (ka0 (d9 (kC (kC l 7) 3) i))]
abbrev mI (y : Int) : BC := .ds [iD y, D.lit (.slice none 0 0), D.lit (.slice none 0 0), D.lit (.slice none 0 0)]
theorem u68 (l : List Int) (hb : Byt l) : Fun 79 [.c (.ptr 0 0)] (kK [(0, some (95, .ds [D.sl (dI .u8 l) (ka0 l)]))]) 1 (.e (.agg [iC (boK l), .d (D.sl (dI .i64 (boR l)) (xV l)), .d (D.sl (kJ (n3 l)) (ka0 (n3 l))), .d (D.sl (dI .i64 (boS l)) (xU l))])) (kK [(0, some (95, .ds [D.sl (dI .u8 (boD l)) (ka0 (boD l))]))]) 1 := by
 refine Fun.mk (n := 89) Tryz.func79 rfl rfl (Nat.le_of_ble_eq_true rfl) ?_
 intro cx hcx
 refine kL [.no] True [(0, rV 0 0), (2, rV 1 0)] [(0, some (95, .ds [db l (ka0 l)])), (1, some (59, uY))] 2 trivial ?_
 have hx1 : ((((((kA l 7) : Nat) : Int) < 7) ∨ ((kA l 7) = 0)) ∧ ((kA l 7) ≤ 255)) := uA l (7 : Int) (qF : Byt l)
 have hx2 : (Byt (kC l 7)) := qK (7 : Int) (qF : Byt l)
 refine kL [.no, .call [0] (uV (kA l 7)) [(0, some (95, .ds [db (kC l 7) (ka0 (kC l 7))]))] 1 [] none, .w, .n2 (1 + (kA l 7)) 0, .no, .no, .no] ((_) ∧ ((-9223372036854775808) ≤ (1 + (kA l 7 : Int)) ∧ (1 + (kA l 7 : Int)) ≤ 9223372036854775807) ∧ (((1 + (kA l 7 : Int)) : Int) = (((1 + (kA l 7)) : Nat) : Int)) ∧ ((1 + (kA l 7)) ≤ 64)) [(0, rV 0 0), (2, rV 1 0), (3, rV 2 0)] [(0, some (95, .ds [db (kC l 7) (ka0 (kC l 7))])), (1, some (59, uY)), (2, some (59, .ds [iD (IntKind.i64.wrap (1 * (((2 ^ (1 + (kA l 7))) : Nat) : Int))), k9, k9, k9]))] 3 ⟨(uQ l 7 (qF : Byt l)), ⟨by omega, by omega⟩, (by first | rfl | omega), zo⟩ ?_
 refine AW.seq ?_
 have hx3 : ((((((kA (kC l 7) 3) : Nat) : Int) < 3) ∨ ((kA (kC l 7) 3) = 0)) ∧ ((kA (kC l 7) 3) ≤ 255)) := uA (kC l 7) (3 : Int) (qF : Byt (kC l 7))
 have hx4 : (Byt (kC (kC l 7) 3)) := qK (3 : Int) (qF : Byt (kC l 7))
 refine kL [.no, .call [0] (uV (kA (kC l 7) 3)) [(0, some (95, .ds [db (kC (kC l 7) 3) (ka0 (kC (kC l 7) 3))]))] 1 [] none, .no] _ [(0, rV 0 0), (2, rV 1 0), (3, rV 2 0), (4, uV (kA (kC l 7) 3))] [(0, some (95, .ds [db (kC (kC l 7) 3) (ka0 (kC (kC l 7) 3))])), (1, some (59, uY)), (2, some (59, .ds [iD (IntKind.i64.wrap (1 * (((2 ^ (1 + (kA l 7))) : Nat) : Int))), k9, k9, k9]))] 3 (uQ (kC l 7) 3 (qF : Byt (kC l 7))) ?_
 refine AW.block ?_
 refine kZ 1 hcx (fun (x : {x : Nat × Int // match x with | (i, y) => (i ≤ kA (kC l 7) 3) ∧ (knK (kC (kC l 7) 3) (kbV l) i = y)}) => match x with | ⟨(i, y), _⟩ => (⟨[(0, rV 0 0), (2, rV 1 0), (3, rV 2 0), (4, iV ((kA (kC l 7) 3 : Int) - (i : Int)))], [(0, some (95, (mJ l i))), (1, some (59, uY)), (2, some (59, (mI y)))], 3⟩ : ES)) (fun x => match x with | ⟨(i, y), _⟩ => kA (kC l 7) 3 - i) ⟨((0 : Nat), ((IntKind.i64.wrap (1 * (((2 ^ (1 + (kA l 7))) : Nat) : Int))) : Int)), ⟨c5, rfl⟩⟩ [] (P := (kH 0) ∧ (kH 0) ∧ (kH 0) ∧ ((((kA (kC l 7) 3 : Int) - 0) : Int) = (kA (kC l 7) 3 : Int)) ∧ (([db (d9 (kC (kC l 7) 3) 0) (ka0 (d9 (kC (kC l 7) 3) 0))] : List D) = [db (kC (kC l 7) 3) (ka0 (kC (kC l 7) 3))]) ∧ (kM [iD 0, k9, k9, k9]) ∧ (kM [iD (IntKind.i64.wrap (1 * (((2 ^ (1 + (kA l 7))) : Nat) : Int))), k9, k9, k9])) zk ⟨rfl, rfl, rfl, dU, (by first | rfl | with_reducible assumption | (simp only [b5, v6, yF]; rfl) | (congr 1; first | assumption | (simp; done) | omega)), rfl, rfl⟩ ?_
 rintro ⟨⟨i, y⟩, hinv0⟩
 obtain ⟨hi, hy⟩ : (i ≤ kA (kC l 7) 3) ∧ (knK (kC (kC l 7) 3) (kbV l) i = y) := hinv0
 refine qT (l := [(0, rV 0 0), (2, rV 1 0), (3, rV 2 0), (4, iV ((kA (kC l 7) 3 : Int) - (i : Int)))]) (g := [(0, some (95, (mJ l i))), (1, some (59, uY)), (2, some (59, (mI y)))]) (nx := 3) rfl rfl rfl ?_
 refine AW.seq ?_
 by_cases hx5 : ((0 : Int) < ((((kA (kC l 7) 3) : Nat) : Int) - ((i : Nat) : Int)))
 ·refine kL [.no, .b true] (((0 : Int) < ((kA (kC l 7) 3 : Int) - (i : Int)))) [(0, rV 0 0), (2, rV 1 0), (3, rV 2 0), (4, iV ((kA (kC l 7) 3 : Int) - ↑i)), (18, bV true)] [(0, some (95, (mJ l i))), (1, some (59, uY)), (2, some (59, (mI y)))] 3 zo ?_
  refine vP ?_
  refine AW.seq ?_
  refine AW.block ?_
  have hx6 : ((((((kA (d9 (kC (kC l 7) 3) i) 7) : Nat) : Int) < 7) ∨ ((kA (d9 (kC (kC l 7) 3) i) 7) = 0)) ∧ ((kA (d9 (kC (kC l 7) 3) i) 7) ≤ 255)) := uA (d9 (kC (kC l 7) 3) i) (7 : Int) ((bD (qF : Byt (kC (kC l 7) 3)) _))
  have hx7 : (Byt (kC (d9 (kC (kC l 7) 3) i) 7)) := qK (7 : Int) ((bD (qF : Byt (kC (kC l 7) 3)) _))
  refine a5 [.no, .no, .no, .call [0] (iV (kA (d9 (kC (kC l 7) 3) i) 7 : Int)) [(0, some (95, .ds [db (kC (d9 (kC (kC l 7) 3) i) 7) (ka0 (kC (d9 (kC (kC l 7) 3) i) 7))]))] 1 [] none, .w, .n2 (1 + (kA (d9 (kC (kC l 7) 3) i) 7)) 0, .i (orI y (IntKind.i64.wrap (1 * (((2 ^ (1 + (kA (d9 (kC (kC l 7) 3) i) 7))) : Nat) : Int)))), .no, .no] ((_) ∧ ((-9223372036854775808) ≤ (1 + (kA (d9 (kC (kC l 7) 3) i) 7 : Int)) ∧ (1 + (kA (d9 (kC (kC l 7) 3) i) 7 : Int)) ≤ 9223372036854775807) ∧ (((1 + (kA (d9 (kC (kC l 7) 3) i) 7 : Int)) : Int) = (((1 + (kA (d9 (kC (kC l 7) 3) i) 7)) : Nat) : Int)) ∧ ((1 + (kA (d9 (kC (kC l 7) 3) i) 7)) ≤ 64) ∧ (qG .or .i64 y (IntKind.i64.wrap (1 * (((2 ^ (1 + (kA (d9 (kC (kC l 7) 3) i) 7))) : Nat) : Int))) = (orI y (IntKind.i64.wrap (1 * (((2 ^ (1 + (kA (d9 (kC (kC l 7) 3) i) 7))) : Nat) : Int)))))) [(0, rV 0 0), (2, rV 1 0), (3, rV 2 0), (4, iV ((kA (kC l 7) 3 : Int) - ↑i))] [(0, some (95, .ds [db (kC (d9 (kC (kC l 7) 3) i) 7) (ka0 (kC (d9 (kC (kC l 7) 3) i) 7))])), (1, some (59, uY)), (2, some (59, .ds [iD (orI y (IntKind.i64.wrap (1 * (((2 ^ (1 + (kA (d9 (kC (kC l 7) 3) i) 7))) : Nat) : Int)))), k9, k9, k9]))] 3 ⟨(uQ (d9 (kC (kC l 7) 3) i) 7 (bD (qF : Byt (kC (kC l 7) 3)) _)), ⟨by omega, by omega⟩, (by first | rfl | omega), zo, rfl⟩ ?_
  refine uS [.no, .w, .no] ((-9223372036854775808) ≤ (((kA (kC l 7) 3 : Int) - (i : Int)) - 1) ∧ (((kA (kC l 7) 3 : Int) - (i : Int)) - 1) ≤ 9223372036854775807) [(0, rV 0 0), (2, rV 1 0), (3, rV 2 0), (4, iV (((kA (kC l 7) 3 : Int) - ↑i) - 1))] ⟨by omega, by omega⟩ ?_
  exact kW ⟨(((i + 1) : Nat), ((orI y (IntKind.i64.wrap (1 * (((2 ^ (1 + (kA (d9 (kC (kC l 7) 3) i) 7))) : Nat) : Int)))) : Int)), ⟨c5, (u70 hy rfl)⟩⟩ [] (P := (kH 0) ∧ (kH 0) ∧ (kH 0) ∧ ((((kA (kC l 7) 3 : Int) - (((i + 1) : Nat) : Int)) : Int) = (((kA (kC l 7) 3 : Int) - (i : Int)) - 1)) ∧ (([db (d9 (kC (kC l 7) 3) (i + 1)) (ka0 (d9 (kC (kC l 7) 3) (i + 1)))] : List D) = [db (kC (d9 (kC (kC l 7) 3) i) 7) (ka0 (kC (d9 (kC (kC l 7) 3) i) 7))]) ∧ (kM [iD 0, k9, k9, k9]) ∧ (kM [iD (orI y (IntKind.i64.wrap (1 * (((2 ^ (1 + (kA (d9 (kC (kC l 7) 3) i) 7))) : Nat) : Int)))), k9, k9, k9])) zk ⟨rfl, rfl, rfl, dU, (by first | rfl | with_reducible assumption | (simp only [b5, v6, yF]; rfl) | (congr 1; first | assumption | (simp; done) | omega)), rfl, rfl⟩ (show kA (kC l 7) 3 - (i + 1) < kA (kC l 7) 3 - i from gS)
 ·refine kL [.no, .b false] (¬ ((0 : Int) < ((kA (kC l 7) 3 : Int) - (i : Int)))) [(0, rV 0 0), (2, rV 1 0), (3, rV 2 0), (4, iV ((kA (kC l 7) 3 : Int) - ↑i)), (18, bV false)] [(0, some (95, (mJ l i))), (1, some (59, uY)), (2, some (59, (mI y)))] 3 zo ?_
  refine zf ?_
  refine AW.exit ?_
  obtain rfl : i = (kA (kC l 7) 3) := (by omega)
  refine kL (qA 6 [(.fz (.no)), .call [0] (.e (.agg [.d (dl (vJ l) (vY (aX qW (qV l) 5) (a6 qW (qV l) 5)))])) [(0, some (95, .ds [db (kR l) (ka0 (kR l))]))] 1 [] none, .no, .no]) ((([iD 44100, iD 44100, iD 48000, iD 48000, iD 8000, iD 8000, iD 32000, iD 50000, iD 96000, iD 192000] : List D).length = 5 * 2) ∧ (_)) [(0, rV 0 0), (2, rV 1 0), (3, rV 2 0)] [(0, some (95, .ds [db (kR l) (ka0 (kR l))])), (1, some (59, uY)), (2, some (59, .ds [iD y, dl (vJ l) (vY (aX qW (qV l) 5) (a6 qW (qV l) 5)), k9, k9]))] 4 ⟨dV, (u1i qW 5 (qV l) (by first | omega | with_reducible assumption | (simp only [qC, qB, ka6, ka8, kb3, ka9, kb0, kb4, kb8] <;> omega) | rfl | assumption) zo zo (bD (qF : Byt (kC (kC l 7) 3)) _))⟩ ?_
  refine kL (qA 5 [(.fz (.no)), .call [0] (.e (.agg [.d (dl (vV l) (vY (aX kT (kR l) 4) (a6 kT (kR l) 4)))])) [(0, some (95, .ds [db (yQ kT (kR l) 4) (ka0 (yQ kT (kR l) 4))]))] 1 [] none, .no, .no]) ((([iD 16, iD 64, iD 64, iD 1024, iD 2048, iD 2048, iD 1, iD 65536] : List D).length = 4 * 2) ∧ (_)) [(0, rV 0 0), (2, rV 1 0), (3, rV 2 0)] [(0, some (95, .ds [db (yQ kT (kR l) 4) (ka0 (yQ kT (kR l) 4))])), (1, some (59, uY)), (2, some (59, .ds [iD y, dl (vJ l) (vY (aX qW (qV l) 5) (a6 qW (qV l) 5)), k9, dl (vV l) (vY (aX kT (kR l) 4) (a6 kT (kR l) 4))]))] 5 ⟨dV, (u1i kT 4 (kR l) (by first | omega | with_reducible assumption | (simp only [qC, qB, ka6, ka8, kb3, ka9, kb0, kb4, kb8] <;> omega) | rfl | assumption) zo zo (bU (bD (qF : Byt (kC (kC l 7) 3)) _)))⟩ ?_
  refine AW.seq ?_
  have hx8 : ((((((kA (yQ kT (kR l) 4) 3) : Nat) : Int) < 3) ∨ ((kA (yQ kT (kR l) 4) 3) = 0)) ∧ ((kA (yQ kT (kR l) 4) 3) ≤ 255)) := uA (yQ kT (kR l) 4) (3 : Int) ((bU (bU (bD (qF : Byt (kC (kC l 7) 3)) _))))
  have hx9 : (Byt (yI l)) := qK (3 : Int) ((bU (bU (bD (qF : Byt (kC (kC l 7) 3)) _))))
  refine kL [.no, .call [0] (uV (kA (yQ kT (kR l) 4) 3)) [(0, some (95, .ds [db (yI l) (ka0 (yI l))]))] 1 [] none, .w, .no] ((_) ∧ ((-9223372036854775808) ≤ (1 + (kA (yQ kT (kR l) 4) 3 : Int)) ∧ (1 + (kA (yQ kT (kR l) 4) 3 : Int)) ≤ 9223372036854775807)) [(0, rV 0 0), (2, rV 1 0), (3, rV 2 0), (5, iV (1 + (kA (yQ kT (kR l) 4) 3 : Int)))] [(0, some (95, .ds [db (yI l) (ka0 (yI l))])), (1, some (59, uY)), (2, some (59, .ds [iD y, dl (vJ l) (vY (aX qW (qV l) 5) (a6 qW (qV l) 5)), k9, dl (vV l) (vY (aX kT (kR l) 4) (a6 kT (kR l) 4))]))] 5 ⟨(uQ (yQ kT (kR l) 4) 3 (bU (bU (bD (qF : Byt (kC (kC l 7) 3)) _)))), ⟨by omega, by omega⟩⟩ ?_
  refine AW.block ?_
  refine pX 2 2 1 23 (cs' := [iC y, .d (dl (vJ l) (vY (aX qW (qV l) 5) (a6 qW (qV l) 5))), .own 5 0 0 1 true, .d (dl (vV l) (vY (aX kT (kR l) 4) (a6 kT (kR l) 4)))]) rfl rfl rfl ?_
  refine kZ 1 hcx (fun (x : {x : Nat × Nat × List (List Int) // match x with | (i2, q, ms) => (i2 ≤ 1 + kA (yQ kT (kR l) 4) 3) ∧ (xP (yI l) i2 = ms) ∧ (ka0 ms = q ∧ q ≤ i2) ∧ (MsN ms) ∧ (MsW ms)}) => match x with | ⟨(i2, q, ms), _⟩ => (⟨[(0, rV 0 0), (2, rV 1 0), (3, rV 2 0), (5, iV ((((1 + (kA (yQ kT (kR l) 4) 3)) : Nat) : Int) - (i2 : Int)))], [(0, some (95, .ds [db (kU l i2) (ka0 (kU l i2))])), (1, some (59, uY)), (2, some (59, (v9 y l q))), (6, some (23, .ds (kJ ms)))], 7⟩ : ES)) (fun x => match x with | ⟨(i2, q, ms), _⟩ => 1 + kA (yQ kT (kR l) 4) 3 - i2) ⟨((0 : Nat), (0 : Nat), (([] : List (List Int)) : List (List Int))), ⟨c5, rfl, ⟨rfl, by omega⟩, MsN.nil, MsW.nil⟩⟩ [(6, 5)] (P := (kH 0) ∧ (kH 0) ∧ (kH 0) ∧ ((((((1 + (kA (yQ kT (kR l) 4) 3)) : Nat) : Int) - 0) : Int) = (1 + (kA (yQ kT (kR l) 4) 3 : Int))) ∧ (([db (oK (yI l) 0) (ka0 (oK (yI l) 0))] : List D) = [db (yI l) (ka0 (yI l))]) ∧ (kM [iD 0, k9, k9, k9]) ∧ (kO y) ∧ (kM (dI .i64 (vJ l))) ∧ (kH (vY (aX qW (qV l) 5) (a6 qW (qV l) 5))) ∧ (kH 0) ∧ (kH 0) ∧ (kM (dI .i64 (vV l))) ∧ (kH (vY (aX kT (kR l) 4) (a6 kT (kR l) 4))) ∧ (((kJ ([] : List (List Int))) : List D) = ([] : List D))) zk ⟨rfl, rfl, rfl, dU, (by first | rfl | with_reducible assumption), rfl, rfl, rfl, rfl, rfl, rfl, rfl, rfl, (by first | rfl | with_reducible assumption)⟩ ?_
  rintro ⟨⟨i2, q, ms⟩, hinv1⟩
  obtain ⟨hi2, hm, hq, hN, hW⟩ : (i2 ≤ 1 + kA (yQ kT (kR l) 4) 3) ∧ (xP (yI l) i2 = ms) ∧ (ka0 ms = q ∧ q ≤ i2) ∧ (MsN ms) ∧ (MsW ms) := hinv1
  refine qT (l := [(0, rV 0 0), (2, rV 1 0), (3, rV 2 0), (5, iV ((((1 + (kA (yQ kT (kR l) 4) 3)) : Nat) : Int) - (i2 : Int)))]) (g := [(0, some (95, .ds [db (kU l i2) (ka0 (kU l i2))])), (1, some (59, uY)), (2, some (59, (v9 y l q))), (6, some (23, .ds (kJ ms)))]) (nx := 7) rfl rfl rfl ?_
  refine AW.seq ?_
  by_cases hx10 : ((0 : Int) < ((((1 + (kA (yQ kT (kR l) 4) 3)) : Nat) : Int) - ((i2 : Nat) : Int)))
  ·refine kL [.no, .b true] (((0 : Int) < ((((1 + (kA (yQ kT (kR l) 4) 3)) : Nat) : Int) - (i2 : Int)))) [(0, rV 0 0), (2, rV 1 0), (3, rV 2 0), (5, iV ((((1 + (kA (yQ kT (kR l) 4) 3)) : Nat) : Int) - ↑i2)), (50, bV true)] [(0, some (95, .ds [db (kU l i2) (ka0 (kU l i2))])), (1, some (59, uY)), (2, some (59, (v9 y l q))), (6, some (23, .ds (kJ ms)))] 7 zo ?_
   refine vP ?_
   refine AW.seq ?_
   refine AW.block ?_
   have hx11 : (((1 : Nat) ≤ (ka0 (yB (kU l i2)))) ∧ ((ka0 (yB (kU l i2))) ≤ 6)) := (k1g ((mN (qF : Byt (yI l)) _)))
   refine kL [.no, .call [0] (sV .i64 (yB (kU l i2)) (ka0 (yB (kU l i2)))) [(0, some (95, (v5 l i2)))] 1 [] none, .no] _ [(0, rV 0 0), (2, rV 1 0), (3, rV 2 0), (5, iV ((((1 + (kA (yQ kT (kR l) 4) 3)) : Nat) : Int) - ↑i2)), (6, sV .i64 (yB (kU l i2)) (ka0 (yB (kU l i2))))] [(0, some (95, (v5 l i2))), (1, some (59, uY)), (2, some (59, (v9 y l q))), (6, some (23, .ds (kJ ms)))] 7 (u1j (kU l i2) (mN (qF : Byt (yI l)) _)) ?_
   refine kP [.no] True [(0, rV 0 0), (2, rV 1 0), (3, rV 2 0), (5, iV ((((1 + (kA (yQ kT (kR l) 4) 3)) : Nat) : Int) - ↑i2)), (6, sV .i64 (yB (kU l i2)) (ka0 (yB (kU l i2)))), (7, bV false)] trivial ?_
   refine AW.seq ?_
   refine kP (qA 4 []) True [(0, rV 0 0), (2, rV 1 0), (3, rV 2 0), (5, iV ((((1 + (kA (yQ kT (kR l) 4) 3)) : Nat) : Int) - ↑i2)), (6, sV .i64 (yB (kU l i2)) (ka0 (yB (kU l i2)))), (7, bV false), (56, oV 6 0 q 1), (57, uV q), (58, iV 0)] trivial ?_
   refine AW.block ?_
   refine kZ 1 hcx (fun (x : {x : Nat × Bool // match x with | (j, f) => (j ≤ q) ∧ (rK (ka3 j ms) (yB (kU l i2)) = f)}) => match x with | ⟨(j, f), _⟩ => (⟨[(0, rV 0 0), (2, rV 1 0), (3, rV 2 0), (5, iV ((((1 + (kA (yQ kT (kR l) 4) 3)) : Nat) : Int) - (i2 : Int))), (6, sV .i64 (yB (kU l i2)) (ka0 (yB (kU l i2)))), (7, qY (D.lit (.bool (f)))), (56, oV 6 0 q 1), (57, uV q), (58, uV j)], [(0, some (95, (v5 l i2))), (1, some (59, uY)), (2, some (59, (v9 y l q))), (6, some (23, .ds (kJ ms)))], 7⟩ : ES)) (fun x => match x with | ⟨(j, f), _⟩ => q - j) ⟨((0 : Nat), (false : Bool)), ⟨c5, (u6i _ _)⟩⟩ [] (P := (kH 0) ∧ (kH 0) ∧ (kH 0) ∧ (kO ((((1 + (kA (yQ kT (kR l) 4) 3)) : Nat) : Int) - (i2 : Int))) ∧ (kM (dI .i64 (yB (kU l i2)))) ∧ (kH (ka0 (yB (kU l i2)))) ∧ ((false) = false) ∧ (kH 0) ∧ (kH q) ∧ (kO (q : Int)) ∧ (kO 0) ∧ (kM [db (kC (kU l i2) 7) (ka0 (kC (kU l i2) 7))]) ∧ (kM [iD 0, k9, k9, k9]) ∧ (kO y) ∧ (kM (dI .i64 (vJ l))) ∧ (kH (vY (aX qW (qV l) 5) (a6 qW (qV l) 5))) ∧ (kH 0) ∧ (kH q) ∧ (kM (dI .i64 (vV l))) ∧ (kH (vY (aX kT (kR l) 4) (a6 kT (kR l) 4))) ∧ (kM (kJ ms))) zk ⟨rfl, rfl, rfl, rfl, rfl, rfl, m7, rfl, rfl, rfl, rfl, rfl, rfl, rfl, rfl, rfl, rfl, rfl, rfl, rfl, rfl⟩ ?_
   rintro ⟨⟨j, f⟩, hinv2⟩
   obtain ⟨hj, hf⟩ : (j ≤ q) ∧ (rK (ka3 j ms) (yB (kU l i2)) = f) := hinv2
   refine qT (l := [(0, rV 0 0), (2, rV 1 0), (3, rV 2 0), (5, iV ((((1 + (kA (yQ kT (kR l) 4) 3)) : Nat) : Int) - (i2 : Int))), (6, sV .i64 (yB (kU l i2)) (ka0 (yB (kU l i2)))), (7, qY (D.lit (.bool (f)))), (56, oV 6 0 q 1), (57, uV q), (58, uV j)]) (g := [(0, some (95, (v5 l i2))), (1, some (59, uY)), (2, some (59, (v9 y l q))), (6, some (23, .ds (kJ ms)))]) (nx := 7) rfl rfl rfl ?_
   by_cases hx12 : (((j : Nat) : Int) < ((q : Nat) : Int))
   ·refine kL [.b true] (((j : Int) < (q : Int))) [(0, rV 0 0), (2, rV 1 0), (3, rV 2 0), (5, iV ((((1 + (kA (yQ kT (kR l) 4) 3)) : Nat) : Int) - ↑i2)), (6, sV .i64 (yB (kU l i2)) (ka0 (yB (kU l i2)))), (7, qY (D.lit (.bool (f)))), (56, oV 6 0 q 1), (57, uV q), (58, uV j), (59, bV true)] [(0, some (95, (v5 l i2))), (1, some (59, uY)), (2, some (59, (v9 y l q))), (6, some (23, .ds (kJ ms)))] 7 zo ?_
    refine AW.seq ?_
    refine vP ?_
    refine AW.seq ?_
    refine AW.block ?_
    have hx13 : ((ka0 (ka1 ms j ([] : List Int))) ≤ 1000000) := MsW.at (qF : MsW ms) _
    refine kP [.n2 j j, .d (dl (ka1 ms j ([] : List Int)) (ka0 (ka1 ms j ([] : List Int)))), .no] ((kO (j : Int)) ∧ (j < q) ∧ ((0 : Nat) + j * 1 = j) ∧ ((kJ ms)[j]? = some (dl (ka1 ms j ([] : List Int)) (ka0 (ka1 ms j ([] : List Int)))))) [(0, rV 0 0), (2, rV 1 0), (3, rV 2 0), (5, iV ((((1 + (kA (yQ kT (kR l) 4) 3)) : Nat) : Int) - ↑i2)), (6, sV .i64 (yB (kU l i2)) (ka0 (yB (kU l i2)))), (7, qY (D.lit (.bool (f)))), (9, sV .i64 (ka1 ms j ([] : List Int)) (ka0 (ka1 ms j ([] : List Int)))), (56, oV 6 0 q 1), (57, uV q), (58, uV j)] ⟨rfl, zo, zo, (k8l _ _ (by first | omega | (simp only [qC, qB, ka6, ka8, kb3, ka9, kb0] <;> omega)))⟩ ?_
    rcases Bool.eq_false_or_eq_true (f) with hx15 | hx15
    ·subst hx15
     have hx16 : 1 ≤ ka0 (ka1 ms j ([] : List Int)) := hN.at zo
     refine a5 (qA 4 []) True [(0, rV 0 0), (2, rV 1 0), (3, rV 2 0), (5, iV ((((1 + (kA (yQ kT (kR l) 4) 3)) : Nat) : Int) - ↑i2)), (6, sV .i64 (yB (kU l i2)) (ka0 (yB (kU l i2)))), (7, bV true), (56, oV 6 0 q 1), (57, uV q), (58, uV j)] [(0, some (95, (v5 l i2))), (1, some (59, uY)), (2, some (59, (v9 y l q))), (6, some (23, .ds (kJ ms)))] 7 trivial ?_
     refine uS [.w, .no] ((-9223372036854775808) ≤ ((j : Int) + 1) ∧ ((j : Int) + 1) ≤ 9223372036854775807) [(0, rV 0 0), (2, rV 1 0), (3, rV 2 0), (5, iV ((((1 + (kA (yQ kT (kR l) 4) 3)) : Nat) : Int) - ↑i2)), (6, sV .i64 (yB (kU l i2)) (ka0 (yB (kU l i2)))), (7, bV true), (56, oV 6 0 q 1), (57, uV q), (58, iV (↑j + 1))] ⟨by omega, by omega⟩ ?_
     exact kW ⟨(((j + 1) : Nat), (true : Bool)), ⟨c5, (by first | exact k81 zo hf | exact k83 zo zo | exact k82 zo hf zo)⟩⟩ [] (P := (kH 0) ∧ (kH 0) ∧ (kH 0) ∧ (kO ((((1 + (kA (yQ kT (kR l) 4) 3)) : Nat) : Int) - (i2 : Int))) ∧ (kM (dI .i64 (yB (kU l i2)))) ∧ (kH (ka0 (yB (kU l i2)))) ∧ ((true) = true) ∧ (kH 0) ∧ (kH q) ∧ (kO (q : Int)) ∧ (((((j + 1) : Nat) : Int) : Int) = ((j : Int) + 1)) ∧ (kM [db (kC (kU l i2) 7) (ka0 (kC (kU l i2) 7))]) ∧ (kM [iD 0, k9, k9, k9]) ∧ (kO y) ∧ (kM (dI .i64 (vJ l))) ∧ (kH (vY (aX qW (qV l) 5) (a6 qW (qV l) 5))) ∧ (kH 0) ∧ (kH q) ∧ (kM (dI .i64 (vV l))) ∧ (kH (vY (aX kT (kR l) 4) (a6 kT (kR l) 4))) ∧ (kM (kJ ms))) zk ⟨rfl, rfl, rfl, rfl, rfl, rfl, m7, rfl, rfl, rfl, dU, rfl, rfl, rfl, rfl, rfl, rfl, rfl, rfl, rfl, rfl⟩ (show q - (j + 1) < q - j from gS)
    ·subst hx15
     by_cases hx18 : ((((ka0 (ka1 ms j ([] : List Int))) : Nat) : Int) = (((ka0 (yB (kU l i2))) : Nat) : Int))
     ·by_cases hx20 : ((ka1 (ka1 ms j ([] : List Int)) 0 0) = (ka1 (yB (kU l i2)) 0 0))
      ·have hx21 : 1 ≤ ka0 (ka1 ms j ([] : List Int)) := hN.at zo
       refine a5 (qA 6 [.b true, .no, .no, .n 0, .d (D.lit (.int .i64 (ka1 (ka1 ms j ([] : List Int)) 0 0))), .no, .n 0, .d (D.lit (.int .i64 (ka1 (yB (kU l i2)) 0 0))), .b true, .no, .no, .no]) ((((((ka0 (ka1 ms j ([] : List Int))) : Nat) : Int) = (ka0 (yB (kU l i2)) : Int))) ∧ (kO 0) ∧ ((0 : Nat) < (ka0 (ka1 ms j ([] : List Int)))) ∧ ((ka4 0 (dI .i64 (ka1 ms j ([] : List Int))))[0]? = some (D.lit (.int .i64 (ka1 (ka1 ms j ([] : List Int)) 0 0)))) ∧ (kO 0) ∧ ((0 : Nat) < (ka0 (yB (kU l i2)))) ∧ ((ka4 0 (dI .i64 (yB (kU l i2))))[0]? = some (D.lit (.int .i64 (ka1 (yB (kU l i2)) 0 0)))) ∧ (((ka1 (ka1 ms j ([] : List Int)) 0 0) = (ka1 (yB (kU l i2)) 0 0)))) [(0, rV 0 0), (2, rV 1 0), (3, rV 2 0), (5, iV ((((1 + (kA (yQ kT (kR l) 4) 3)) : Nat) : Int) - ↑i2)), (6, sV .i64 (yB (kU l i2)) (ka0 (yB (kU l i2)))), (7, bV true), (56, oV 6 0 q 1), (57, uV q), (58, uV j)] [(0, some (95, (v5 l i2))), (1, some (59, uY)), (2, some (59, (v9 y l q))), (6, some (23, .ds (kJ ms)))] 7 ⟨zo, rfl, zo, (q5 _ _ _ dV), rfl, zo, (q5 _ _ _ dV), zo⟩ ?_
       refine uS [.w, .no] ((-9223372036854775808) ≤ ((j : Int) + 1) ∧ ((j : Int) + 1) ≤ 9223372036854775807) [(0, rV 0 0), (2, rV 1 0), (3, rV 2 0), (5, iV ((((1 + (kA (yQ kT (kR l) 4) 3)) : Nat) : Int) - ↑i2)), (6, sV .i64 (yB (kU l i2)) (ka0 (yB (kU l i2)))), (7, bV true), (56, oV 6 0 q 1), (57, uV q), (58, iV (↑j + 1))] ⟨by omega, by omega⟩ ?_
       exact kW ⟨(((j + 1) : Nat), (true : Bool)), ⟨c5, (by first | exact k81 zo hf | exact k83 zo zo | exact k82 zo hf zo)⟩⟩ [] (P := (kH 0) ∧ (kH 0) ∧ (kH 0) ∧ (kO ((((1 + (kA (yQ kT (kR l) 4) 3)) : Nat) : Int) - (i2 : Int))) ∧ (kM (dI .i64 (yB (kU l i2)))) ∧ (kH (ka0 (yB (kU l i2)))) ∧ ((true) = true) ∧ (kH 0) ∧ (kH q) ∧ (kO (q : Int)) ∧ (((((j + 1) : Nat) : Int) : Int) = ((j : Int) + 1)) ∧ (kM [db (kC (kU l i2) 7) (ka0 (kC (kU l i2) 7))]) ∧ (kM [iD 0, k9, k9, k9]) ∧ (kO y) ∧ (kM (dI .i64 (vJ l))) ∧ (kH (vY (aX qW (qV l) 5) (a6 qW (qV l) 5))) ∧ (kH 0) ∧ (kH q) ∧ (kM (dI .i64 (vV l))) ∧ (kH (vY (aX kT (kR l) 4) (a6 kT (kR l) 4))) ∧ (kM (kJ ms))) zk ⟨rfl, rfl, rfl, rfl, rfl, rfl, m7, rfl, rfl, rfl, dU, rfl, rfl, rfl, rfl, rfl, rfl, rfl, rfl, rfl, rfl⟩ (show q - (j + 1) < q - j from gS)
      ·have hx22 : 1 ≤ ka0 (ka1 ms j ([] : List Int)) := hN.at zo
       refine a5 (qA 6 [.b true, .no, .no, .n 0, .d (D.lit (.int .i64 (ka1 (ka1 ms j ([] : List Int)) 0 0))), .no, .n 0, .d (D.lit (.int .i64 (ka1 (yB (kU l i2)) 0 0))), .b false, .no, .no, .no]) ((((((ka0 (ka1 ms j ([] : List Int))) : Nat) : Int) = (ka0 (yB (kU l i2)) : Int))) ∧ (kO 0) ∧ ((0 : Nat) < (ka0 (ka1 ms j ([] : List Int)))) ∧ ((ka4 0 (dI .i64 (ka1 ms j ([] : List Int))))[0]? = some (D.lit (.int .i64 (ka1 (ka1 ms j ([] : List Int)) 0 0)))) ∧ (kO 0) ∧ ((0 : Nat) < (ka0 (yB (kU l i2)))) ∧ ((ka4 0 (dI .i64 (yB (kU l i2))))[0]? = some (D.lit (.int .i64 (ka1 (yB (kU l i2)) 0 0)))) ∧ (¬ ((ka1 (ka1 ms j ([] : List Int)) 0 0) = (ka1 (yB (kU l i2)) 0 0)))) [(0, rV 0 0), (2, rV 1 0), (3, rV 2 0), (5, iV ((((1 + (kA (yQ kT (kR l) 4) 3)) : Nat) : Int) - ↑i2)), (6, sV .i64 (yB (kU l i2)) (ka0 (yB (kU l i2)))), (7, bV false), (56, oV 6 0 q 1), (57, uV q), (58, uV j)] [(0, some (95, (v5 l i2))), (1, some (59, uY)), (2, some (59, (v9 y l q))), (6, some (23, .ds (kJ ms)))] 7 ⟨zo, rfl, zo, (q5 _ _ _ dV), rfl, zo, (q5 _ _ _ dV), zo⟩ ?_
       refine uS [.w, .no] ((-9223372036854775808) ≤ ((j : Int) + 1) ∧ ((j : Int) + 1) ≤ 9223372036854775807) [(0, rV 0 0), (2, rV 1 0), (3, rV 2 0), (5, iV ((((1 + (kA (yQ kT (kR l) 4) 3)) : Nat) : Int) - ↑i2)), (6, sV .i64 (yB (kU l i2)) (ka0 (yB (kU l i2)))), (7, bV false), (56, oV 6 0 q 1), (57, uV q), (58, iV (↑j + 1))] ⟨by omega, by omega⟩ ?_
       exact kW ⟨(((j + 1) : Nat), (false : Bool)), ⟨c5, (by first | exact k81 zo hf | exact k83 zo zo | exact k82 zo hf zo)⟩⟩ [] (P := (kH 0) ∧ (kH 0) ∧ (kH 0) ∧ (kO ((((1 + (kA (yQ kT (kR l) 4) 3)) : Nat) : Int) - (i2 : Int))) ∧ (kM (dI .i64 (yB (kU l i2)))) ∧ (kH (ka0 (yB (kU l i2)))) ∧ ((false) = false) ∧ (kH 0) ∧ (kH q) ∧ (kO (q : Int)) ∧ (((((j + 1) : Nat) : Int) : Int) = ((j : Int) + 1)) ∧ (kM [db (kC (kU l i2) 7) (ka0 (kC (kU l i2) 7))]) ∧ (kM [iD 0, k9, k9, k9]) ∧ (kO y) ∧ (kM (dI .i64 (vJ l))) ∧ (kH (vY (aX qW (qV l) 5) (a6 qW (qV l) 5))) ∧ (kH 0) ∧ (kH q) ∧ (kM (dI .i64 (vV l))) ∧ (kH (vY (aX kT (kR l) 4) (a6 kT (kR l) 4))) ∧ (kM (kJ ms))) zk ⟨rfl, rfl, rfl, rfl, rfl, rfl, m7, rfl, rfl, rfl, dU, rfl, rfl, rfl, rfl, rfl, rfl, rfl, rfl, rfl, rfl⟩ (show q - (j + 1) < q - j from gS)
     ·have hx23 : 1 ≤ ka0 (ka1 ms j ([] : List Int)) := hN.at zo
      refine a5 (qA 6 (.b false :: qA 4 [])) (¬ ((((ka0 (ka1 ms j ([] : List Int))) : Nat) : Int) = (ka0 (yB (kU l i2)) : Int))) [(0, rV 0 0), (2, rV 1 0), (3, rV 2 0), (5, iV ((((1 + (kA (yQ kT (kR l) 4) 3)) : Nat) : Int) - ↑i2)), (6, sV .i64 (yB (kU l i2)) (ka0 (yB (kU l i2)))), (7, bV false), (56, oV 6 0 q 1), (57, uV q), (58, uV j)] [(0, some (95, (v5 l i2))), (1, some (59, uY)), (2, some (59, (v9 y l q))), (6, some (23, .ds (kJ ms)))] 7 zo ?_
      refine uS [.w, .no] ((-9223372036854775808) ≤ ((j : Int) + 1) ∧ ((j : Int) + 1) ≤ 9223372036854775807) [(0, rV 0 0), (2, rV 1 0), (3, rV 2 0), (5, iV ((((1 + (kA (yQ kT (kR l) 4) 3)) : Nat) : Int) - ↑i2)), (6, sV .i64 (yB (kU l i2)) (ka0 (yB (kU l i2)))), (7, bV false), (56, oV 6 0 q 1), (57, uV q), (58, iV (↑j + 1))] ⟨by omega, by omega⟩ ?_
      exact kW ⟨(((j + 1) : Nat), (false : Bool)), ⟨c5, (by first | exact k81 zo hf | exact k83 zo zo | exact k82 zo hf zo)⟩⟩ [] (P := (kH 0) ∧ (kH 0) ∧ (kH 0) ∧ (kO ((((1 + (kA (yQ kT (kR l) 4) 3)) : Nat) : Int) - (i2 : Int))) ∧ (kM (dI .i64 (yB (kU l i2)))) ∧ (kH (ka0 (yB (kU l i2)))) ∧ ((false) = false) ∧ (kH 0) ∧ (kH q) ∧ (kO (q : Int)) ∧ (((((j + 1) : Nat) : Int) : Int) = ((j : Int) + 1)) ∧ (kM [db (kC (kU l i2) 7) (ka0 (kC (kU l i2) 7))]) ∧ (kM [iD 0, k9, k9, k9]) ∧ (kO y) ∧ (kM (dI .i64 (vJ l))) ∧ (kH (vY (aX qW (qV l) 5) (a6 qW (qV l) 5))) ∧ (kH 0) ∧ (kH q) ∧ (kM (dI .i64 (vV l))) ∧ (kH (vY (aX kT (kR l) 4) (a6 kT (kR l) 4))) ∧ (kM (kJ ms))) zk ⟨rfl, rfl, rfl, rfl, rfl, rfl, m7, rfl, rfl, rfl, dU, rfl, rfl, rfl, rfl, rfl, rfl, rfl, rfl, rfl, rfl⟩ (show q - (j + 1) < q - j from gS)
   ·refine kL [.b false] (¬ ((j : Int) < (q : Int))) [(0, rV 0 0), (2, rV 1 0), (3, rV 2 0), (5, iV ((((1 + (kA (yQ kT (kR l) 4) 3)) : Nat) : Int) - ↑i2)), (6, sV .i64 (yB (kU l i2)) (ka0 (yB (kU l i2)))), (7, qY (D.lit (.bool (f)))), (56, oV 6 0 q 1), (57, uV q), (58, uV j), (59, bV false)] [(0, some (95, (v5 l i2))), (1, some (59, uY)), (2, some (59, (v9 y l q))), (6, some (23, .ds (kJ ms)))] 7 zo ?_
    refine AW.seq ?_
    refine zf ?_
    refine AW.exit ?_
    rcases Bool.eq_false_or_eq_true (f) with hx24 | hx24
    ·subst hx24
     refine kL [.no, .no] True [(0, rV 0 0), (2, rV 1 0), (3, rV 2 0), (5, iV ((((1 + (kA (yQ kT (kR l) 4) 3)) : Nat) : Int) - ↑i2)), (6, sV .i64 (yB (kU l i2)) (ka0 (yB (kU l i2)))), (81, bV false)] [(0, some (95, (v5 l i2))), (1, some (59, uY)), (2, some (59, (v9 y l q))), (6, some (23, .ds (kJ ms)))] 7 trivial ?_
     refine uB ?_
     refine uS [.no, .w, .no] ((-9223372036854775808) ≤ (((((1 + (kA (yQ kT (kR l) 4) 3)) : Nat) : Int) - (i2 : Int)) - 1) ∧ (((((1 + (kA (yQ kT (kR l) 4) 3)) : Nat) : Int) - (i2 : Int)) - 1) ≤ 9223372036854775807) [(0, rV 0 0), (2, rV 1 0), (3, rV 2 0), (5, iV (((((1 + (kA (yQ kT (kR l) 4) 3)) : Nat) : Int) - ↑i2) - 1))] ⟨by omega, by omega⟩ ?_
     exact kW ⟨(((i2 + 1) : Nat), (q : Nat), (ms : List (List Int))), ⟨c5, (by first | exact u4o hm (rJ hq.1 zo hf) | exact u4p hm (rJ hq.1 zo hf)), (by first | omega | (simp only [qC, qB, ka6, ka8, kb3] <;> omega)), (by first | assumption | exact hN.snoc zo), (by first | assumption | exact hW.snoc (kg9 (r8 _) zo))⟩⟩ [] (P := (kH 0) ∧ (kH 0) ∧ (kH 0) ∧ ((((((1 + (kA (yQ kT (kR l) 4) 3)) : Nat) : Int) - (((i2 + 1) : Nat) : Int)) : Int) = (((((1 + (kA (yQ kT (kR l) 4) 3)) : Nat) : Int) - (i2 : Int)) - 1)) ∧ (([db (oK (yI l) (i2 + 1)) (ka0 (oK (yI l) (i2 + 1)))] : List D) = [db (kC (kU l i2) 7) (ka0 (kC (kU l i2) 7))]) ∧ (kM [iD 0, k9, k9, k9]) ∧ (kO y) ∧ (kM (dI .i64 (vJ l))) ∧ (kH (vY (aX qW (qV l) 5) (a6 qW (qV l) 5))) ∧ (kH 0) ∧ (kH q) ∧ (kM (dI .i64 (vV l))) ∧ (kH (vY (aX kT (kR l) 4) (a6 kT (kR l) 4))) ∧ (kM (kJ ms))) zk ⟨rfl, rfl, rfl, dU, (by first | rfl | with_reducible assumption), rfl, rfl, rfl, rfl, rfl, rfl, rfl, rfl, rfl⟩ (show 1 + kA (yQ kT (kR l) 4) 3 - (i2 + 1) < 1 + kA (yQ kT (kR l) 4) 3 - i2 from gS)
    ·subst hx24
     refine kL [.no, .no] True [(0, rV 0 0), (2, rV 1 0), (3, rV 2 0), (5, iV ((((1 + (kA (yQ kT (kR l) 4) 3)) : Nat) : Int) - ↑i2)), (6, sV .i64 (yB (kU l i2)) (ka0 (yB (kU l i2)))), (81, bV true)] [(0, some (95, (v5 l i2))), (1, some (59, uY)), (2, some (59, (v9 y l q))), (6, some (23, .ds (kJ ms)))] 7 trivial ?_
     refine zt ?_
     refine a5 (qA 4 [.ap none (q + 1) (kJ (ms ++ ([(yB (kU l i2))] : List (List Int)))), .no, .no]) (([dl (yB (kU l i2)) (ka0 (yB (kU l i2)))].length = 1 * 1) ∧ (((kJ ms) : List D).length = q * 1) ∧ ((q + 1) * 24 ≤ 140737488355328) ∧ (q + 1 = (q + 1)) ∧ (((kJ ms) : List D) ++ [dl (yB (kU l i2)) (ka0 (yB (kU l i2)))] = (kJ (ms ++ ([(yB (kU l i2))] : List (List Int)))))) [(0, rV 0 0), (2, rV 1 0), (3, rV 2 0), (5, iV ((((1 + (kA (yQ kT (kR l) 4) 3)) : Nat) : Int) - ↑i2))] [(0, some (95, (v5 l i2))), (1, some (59, uY)), (2, some (59, .cs [iC y, .d (dl (vJ l) (vY (aX qW (qV l) 5) (a6 qW (qV l) 5))), .own 8 0 (q + 1) 1 true, .d (dl (vV l) (vY (aX kT (kR l) 4) (a6 kT (kR l) 4)))])), (8, some (23, .ds (kJ (ms ++ ([(yB (kU l i2))] : List (List Int))))))] 9 ⟨dV, dV, zo, zo, (bX ms (yB (kU l i2)) (ka0 (yB (kU l i2))) (by first | rfl | omega))⟩ ?_
     refine uS [.no, .w, .no] ((-9223372036854775808) ≤ (((((1 + (kA (yQ kT (kR l) 4) 3)) : Nat) : Int) - (i2 : Int)) - 1) ∧ (((((1 + (kA (yQ kT (kR l) 4) 3)) : Nat) : Int) - (i2 : Int)) - 1) ≤ 9223372036854775807) [(0, rV 0 0), (2, rV 1 0), (3, rV 2 0), (5, iV (((((1 + (kA (yQ kT (kR l) 4) 3)) : Nat) : Int) - ↑i2) - 1))] ⟨by omega, by omega⟩ ?_
     exact kW ⟨(((i2 + 1) : Nat), ((q + 1) : Nat), ((ms ++ ([(yB (kU l i2))] : List (List Int))) : List (List Int))), ⟨c5, (by first | exact u4o hm (rJ hq.1 zo hf) | exact u4p hm (rJ hq.1 zo hf)), (by first | omega | (simp only [qC, qB, ka6, ka8, kb3] <;> omega)), (by first | assumption | exact hN.snoc zo), (by first | assumption | exact hW.snoc (kg9 (r8 _) zo))⟩⟩ [(6, 8)] (P := (kH 0) ∧ (kH 0) ∧ (kH 0) ∧ ((((((1 + (kA (yQ kT (kR l) 4) 3)) : Nat) : Int) - (((i2 + 1) : Nat) : Int)) : Int) = (((((1 + (kA (yQ kT (kR l) 4) 3)) : Nat) : Int) - (i2 : Int)) - 1)) ∧ (([db (oK (yI l) (i2 + 1)) (ka0 (oK (yI l) (i2 + 1)))] : List D) = [db (kC (kU l i2) 7) (ka0 (kC (kU l i2) 7))]) ∧ (kM [iD 0, k9, k9, k9]) ∧ (kO y) ∧ (kM (dI .i64 (vJ l))) ∧ (kH (vY (aX qW (qV l) 5) (a6 qW (qV l) 5))) ∧ (kH 0) ∧ (kH (q + 1)) ∧ (kM (dI .i64 (vV l))) ∧ (kH (vY (aX kT (kR l) 4) (a6 kT (kR l) 4))) ∧ (kM (kJ (ms ++ ([(yB (kU l i2))] : List (List Int)))))) zk ⟨rfl, rfl, rfl, dU, (by first | rfl | with_reducible assumption), rfl, rfl, rfl, rfl, rfl, rfl, rfl, rfl, rfl⟩ (show 1 + kA (yQ kT (kR l) 4) 3 - (i2 + 1) < 1 + kA (yQ kT (kR l) 4) 3 - i2 from gS)
  ·refine kL [.no, .b false] (¬ ((0 : Int) < ((((1 + (kA (yQ kT (kR l) 4) 3)) : Nat) : Int) - (i2 : Int)))) [(0, rV 0 0), (2, rV 1 0), (3, rV 2 0), (5, iV ((((1 + (kA (yQ kT (kR l) 4) 3)) : Nat) : Int) - ↑i2)), (50, bV false)] [(0, some (95, .ds [db (kU l i2) (ka0 (kU l i2))])), (1, some (59, uY)), (2, some (59, (v9 y l q))), (6, some (23, .ds (kJ ms)))] 7 zo ?_
   refine zf ?_
   refine AW.exit ?_
   refine kL [.no, .no] True [(2, rV 1 0)] [(0, some (95, .ds [db (kU l i2) (ka0 (kU l i2))])), (1, some (59, (v9 y l q))), (6, some (23, .ds (kJ ms)))] 7 trivial ?_
   obtain rfl : i2 = (1 + (kA (yQ kT (kR l) 4) 3)) := (by omega)
   refine AW.freeze 6 (l' := [(2, rV 1 0)]) (g' := [(0, some (95, .ds [db (oK (yI l) (1 + (kA (yQ kT (kR l) 4) 3))) (ka0 (oK (yI l) (1 + (kA (yQ kT (kR l) 4) 3))))])), (1, some (59, .ds [iD y, dl (vJ l) (vY (aX qW (qV l) 5) (a6 qW (qV l) 5)), D.sl (kJ ms) q, dl (vV l) (vY (aX kT (kR l) 4) (a6 kT (kR l) 4))]))]) rfl (FzS.cons rfl (.same _) FzS.nil) (qO rfl rfl (FzG.to (bc := .cs [iC y, .d (dl (vJ l) (vY (aX qW (qV l) 5) (a6 qW (qV l) 5))), .own 6 0 q 1 true, .d (dl (vV l) (vY (aX kT (kR l) 4) (a6 kT (kR l) 4)))]) rfl (by rfl) (FzL.cons (.same _) (FzL.cons (.same _) (FzL.cons (@FzC.own 6 ((kJ ms) : List D) 0 q 1 true ((kJ ms) : List D) (by rw [List.drop_zero, kc5, kb7 (by first | omega | (simp only [qC, qB, qX, ka6, ka8, kb3, ka9, kb0, kb4, kb8, kc0, kc1, kc5] <;> omega))]) dV) (FzL.cons (.same _) FzL.nil)))) FzG.nil)) ?_
   have hz1 : boK l = y := hy
   have hz2 : n3 l = ms := hm
   refine AW.ret ?_
   exact kD (.inr rfl) [] (P := (((boK l) : Int) = y) ∧ (((dI .i64 (boR l)) : List D) = (dI .i64 (vJ l))) ∧ (((xV l) : Nat) = (vY (aX qW (qV l) 5) (a6 qW (qV l) 5))) ∧ (((kJ (n3 l)) : List D) = (kJ ms)) ∧ (((ka0 (n3 l)) : Nat) = q) ∧ (((dI .i64 (boS l)) : List D) = (dI .i64 (vV l))) ∧ (((xU l) : Nat) = (vY (aX kT (kR l) 4) (a6 kT (kR l) 4))) ∧ (([db (boD l) (ka0 (boD l))] : List D) = [db (oK (yI l) (1 + (kA (yQ kT (kR l) 4) 3))) (ka0 (oK (yI l) (1 + (kA (yQ kT (kR l) 4) 3))))])) zk ⟨(by first | rfl | exact hz1 | (rw [hz2]; omega) | omega), (by first | rfl | (rw [hz2]; done) | (rw [hz2]; rfl)), (by first | rfl | exact hz1 | (rw [hz2]; omega) | omega), (by first | rfl | (rw [hz2]; done) | (rw [hz2]; rfl)), (by first | rfl | exact hz1 | (rw [hz2]; omega) | omega), (by first | rfl | (rw [hz2]; done) | (rw [hz2]; rfl)), (by first | rfl | exact hz1 | (rw [hz2]; omega) | omega), (by first | rfl | (rw [hz2]; done) | (rw [hz2]; rfl))⟩
end Go.Proofs.YtcfmjpnffembpaaGreat
