/- Boxes out of dice. No statement is proved here. -/
import Derived.Test.YtalbpleglapihaaZL10E
namespace Go.Proofs.Ytalbpleglapihaa
open Go.ChangeShapes Go.WideShapes Go.ChangeAt Go.RowKit
open List renaming drop → ka7, getD → ka0, getD_eq_getElem?_getD → ka8, getElem?_eq_getElem → ka9, length → ka1, length_append → ka4, length_cons → kb1, length_drop → kb2, length_map → kd0, length_nil → kb6, length_replicate → kb4, length_reverse → kc7, length_set → kc2, length_take → kb3, take → ka2, take_of_length_le → kc3
open Nat renaming le_trans → ke9, mul_one → kc4
set_option linter.unusedVariables false
set_option linter.unusedSimpArgs false
set_option maxHeartbeats 4000000
set_option maxRecDepth 100000
theorem k5w (xs : List (List Int)) (i : Nat) (h : i < xs.length) : (k9 xs)[i]? = some (D.sl (dI .i64 (ka0 xs i [])) (ka0 xs i []).length) := by
 have := aN xs i h
 rw [List.getElem?_drop, Nat.add_zero] at this; exact this
def kbV (l : List Int) : Int := IntKind.i64.wrap (1 * (((2 ^ (1 + (kB l 7))) : Nat) : Int))
def orI (a b : Int) : Int := qM .or .i64 a b
def aY (l : List Int) : Nat → List Int
 | 0 => l
 | i + 1 => kA (aY l i) 7
def knK (l : List Int) (k : Int) : Nat → Int
 | 0 => k
 | i + 1 => orI (knK l k i) (kbV (aY l i))
theorem yW {l : List Int} (h : Byt l) : ∀ i, Byt (aY l i)
 | 0 => h
 | i + 1 => kF _ (yW h i)
def thE (x m : List Int) : Bool := decide (ka1 x = ka1 m ∧ ka0 x 0 0 = ka0 m 0 0)
def jO (ms : List (List Int)) (m : List Int) : Bool := ms.any fun x => thE x m
theorem u55 (ms : List (List Int)) (m : List Int) : jO (ka2 0 ms) m = false := rfl
theorem mS {ms : List (List Int)} {m : List Int} {j : Nat} (h : j < ms.length) : jO (ka2 (j + 1) ms) m = (jO (ka2 j ms) m || thE (ka0 ms j []) m) := by
 unfold jO
 rw [ka8, ka9 h, List.take_succ_eq_append_getElem h, List.any_append]
 simp
theorem k59 {ms : List (List Int)} {m : List Int} {j : Nat} (h : j < ms.length) (h1 : jO (ka2 j ms) m = true) : jO (ka2 (j + 1) ms) m = true := by
 rw [mS h, h1]; rfl
theorem k5b {ms : List (List Int)} {m : List Int} {j : Nat} (h : j < ms.length) (h1 : ka1 (ka0 ms j []) = ka1 m ∧ ka0 (ka0 ms j []) 0 0 = ka0 m 0 0) : jO (ka2 (j + 1) ms) m = true := by
 rw [mS h, show thE (ka0 ms j []) m = true from decide_eq_true h1, Bool.or_true]
theorem k5a {ms : List (List Int)} {m : List Int} {j : Nat} (h : j < ms.length) (h0 : jO (ka2 j ms) m = false) (h1 : ¬ (ka1 (ka0 ms j []) = ka1 m ∧ ka0 (ka0 ms j []) 0 0 = ka0 m 0 0)) : jO (ka2 (j + 1) ms) m = false := by
 rw [mS h, h0, show thE (ka0 ms j []) m = false from decide_eq_false h1]; rfl
def jS (l : List Int) : Nat → List Int
 | 0 => l
 | i + 1 => kA (jS l i) 7
def jR (l : List Int) : Nat → List (List Int)
 | 0 => []
 | i + 1 => if jO (jR l i) (uL (jS l i)) = true then jR l i else jR l i ++ [uL (jS l i)]
theorem eB {l : List Int} (h : Byt l) : ∀ i, Byt (jS l i)
 | 0 => h
 | i + 1 => kF _ (eB h i)
theorem u31 {l : List Int} {i : Nat} {ms : List (List Int)} (h : jR l i = ms) (h1 : jO ms (uL (jS l i)) = true) : jR l (i + 1) = ms := by
 subst h; exact if_pos h1
theorem u35 {l : List Int} {i : Nat} {ms : List (List Int)} (h : jR l i = ms) (h1 : jO ms (uL (jS l i)) = false) : jR l (i + 1) = ms ++ [uL (jS l i)] := by
 subst h; exact if_neg (by rw [h1]; decide)
theorem u5l {l : List Int} {k : Int} {i : Nat} {y x : Int} (h : knK l k i = y) (hx : x = orI y (kbV (aY l i))) : knK l k (i + 1) = x := by
 subst h; rw [hx]; rfl
theorem mT {ms : List (List Int)} {m : List Int} {j c : Nat} {f : Bool} (hc : ms.length = c) (hj : c ≤ j) (h : jO (ka2 j ms) m = f) : jO ms m = f := by
 rw [kc3 (by omega)] at h; exact h
theorem k25 (l : List Int) : ∀ i, MsW (jR l i)
 | 0 => MsW.nil
 | i + 1 => by
  rw [jR]; split
  ·exact k25 l i
  ·exact (k25 l i).snoc (ke9 (nL _) (by omega))
theorem tO (l : List Int) : ∀ i, ka1 (jR l i) ≤ i
 | 0 => Nat.le_refl _
 | i + 1 => by
  have := tO l i
  rw [jR]; split
  ·omega
  ·rw [ka4, List.length_singleton]; omega
def bo1 (l : List Int) : List Int := kA (kA l 7) 3
def bo2 (l : List Int) : List Int := aY (bo1 l) (kB (kA l 7) 3)
def rtT : List Int := [44100, 44100, 48000, 48000, 8000, 8000, 32000, 50000, 96000, 192000]
def szT : List Int := [16, 64, 64, 1024, 2048, 2048, 1, 65536]
def bo3 (l : List Int) : List Int := uZ rtT (bo2 l) 5
def bo4 (l : List Int) : List Int := uZ szT (bo3 l) 4
def bo5 (l : List Int) : List Int := kA (bo4 l) 3
def boN (l : List Int) : Nat := 1 + kB (bo4 l) 3
def boD (l : List Int) : List Int := jS (bo5 l) (boN l)
def sH (l : List Int) : Int := knK (bo1 l) (kbV l) (kB (kA l 7) 3)
def sG (l : List Int) : List Int := bU (y1 rtT (bo2 l) 5) (yY rtT (bo2 l) 5)
def o9 (l : List Int) : Nat := yG (y1 rtT (bo2 l) 5) (yY rtT (bo2 l) 5)
def sF (l : List Int) : List Int := bU (y1 szT (bo3 l) 4) (yY szT (bo3 l) 4)
def o8 (l : List Int) : Nat := yG (y1 szT (bo3 l) 4) (yY szT (bo3 l) 4)
def gC (l : List Int) : List (List Int) := jR (bo5 l) (boN l)
def MsN (xs : List (List Int)) : Prop := ∀ l ∈ xs, 1 ≤ ka1 l
theorem MsN.nil : MsN [] := fun l h => by cases h
theorem MsN.snoc {xs : List (List Int)} {l : List Int} (h : MsN xs) (hl : 1 ≤ ka1 l) : MsN (xs ++ [l]) := fun m hm => (List.mem_append.1 hm).elim (h m) fun hm => by
 rw [List.mem_singleton.1 hm]; exact hl
theorem MsN.at {xs : List (List Int)} (h : MsN xs) {i : Nat} (hi : i < xs.length) : 1 ≤ ka1 (ka0 xs i []) := by
 rw [ka8, ka9 hi]; exact h _ (List.getElem_mem hi)
attribute [local irreducible] y1 uZ yY bU yG kB kA uL jO
abbrev qG := ([44100, 44100, 48000, 48000, 8000, 8000, 32000, 50000, 96000, 192000] : List Int)
abbrev qF (l : List Int) := aY (kA (kA l 7) 3) (kB (kA l 7) 3)
abbrev kH (l : List Int) := uZ qG (qF l) 5
abbrev kJ := ([16, 64, 64, 1024, 2048, 2048, 1, 65536] : List Int)
abbrev uP (l : List Int) := kA (uZ kJ (kH l) 4) 3
abbrev kI (l : List Int) (i2 : Nat) := jS (uP l) i2
abbrev yB (l : List Int) := bU (y1 qG (qF l) 5) (yY qG (qF l) 5)
abbrev yJ (l : List Int) := bU (y1 kJ (kH l) 4) (yY kJ (kH l) 4)
theorem aG {p : Prop} (h : p := by first | omega | assumption | simp) : p := h
theorem bC {p : Prop} (h : p := by first | rfl | omega | assumption | (simp; done) | (simp; omega)) : p := h
theorem dJ {p : Prop} (h : p := by first | omega | (show _ < _; simp; omega)) : p := h
theorem bD {p : Prop} (h : p := by first | omega | (simp only [kR, kO, qK, ka4, kb1, kb6, kb3, kb2, kb4, kc2, kd0, kc7, kc4] <;> omega) | rfl) : p := h
theorem gU {p : Prop} (h : p := by first | rfl | assumption | simp) : p := h
abbrev yV (y : Int) (l : List Int) (q : Nat) : BC := .cs [iC y, .d (D.sl (dI .i64 (yB l)) (yG (y1 qG (qF l) 5) (yY qG (qF l) 5))), .own 6 0 q 1 true, .d (D.sl (dI .i64 (yJ l)) (yG (y1 kJ (kH l) 4) (yY kJ (kH l) 4)))]
abbrev uA : BC := .ds [iD 0, D.lit (.slice none 0 0), D.lit (.slice none 0 0), D.lit (.slice none 0 0)]
abbrev yN (l : List Int) (i2 : Nat) : BC := .ds [D.sl (dI .u8 (kA (kI l i2) 7)) (ka1 (kA (kI l i2) 7))]
abbrev gE (l : List Int) (i : Nat) : BC := .ds [D.sl (dI .u8 (aY (kA (kA l 7) 3) i)) (ka1 (aY (kA (kA l 7) 3) i))]
abbrev gD (y : Int) : BC := .ds [iD y, D.lit (.slice none 0 0), D.lit (.slice none 0 0), D.lit (.slice none 0 0)]
theorem u49 (l : List Int) (hb : Byt l) : Fun 46 [.c (.ptr 0 0)] (kG [(0, some (66, .ds [D.sl (dI .u8 l) (ka1 l)]))]) 1 (.e (.agg [iC (sH l), .d (D.sl (dI .i64 (sG l)) (o9 l)), .d (D.sl (k9 (gC l)) (ka1 (gC l))), .d (D.sl (dI .i64 (sF l)) (o8 l))])) (kG [(0, some (66, .ds [D.sl (dI .u8 (boD l)) (ka1 (boD l))]))]) 1 := by
 refine Fun.mk (n := 89) Try.func46 rfl rfl (Nat.le_of_ble_eq_true rfl) ?_
 intro cx hcx
 refine kK [.no] True [(0, rV 0 0), (2, rV 1 0)] [(0, some (66, .ds [db l (ka1 l)])), (1, some (78, uA))] 2 trivial ?_
 have hx1 : ((((((kB l 7) : Nat) : Int) < 7) ∨ ((kB l 7) = 0)) ∧ ((kB l 7) ≤ 255)) := kQ l (7 : Int) (kP : Byt l)
 have hx2 : (Byt (kA l 7)) := kF (7 : Int) (kP : Byt l)
 refine kK [.no, .call [0] (uV (kB l 7)) [(0, some (66, .ds [db (kA l 7) (ka1 (kA l 7))]))] 1 [] none, .w, .n2 (1 + (kB l 7)) 0, .no, .no, .no] ((_) ∧ (qL (1 + (kB l 7 : Int))) ∧ (((1 + (kB l 7 : Int)) : Int) = (((1 + (kB l 7)) : Nat) : Int)) ∧ ((1 + (kB l 7)) ≤ 64)) [(0, rV 0 0), (2, rV 1 0), (3, rV 2 0)] [(0, some (66, .ds [db (kA l 7) (ka1 (kA l 7))])), (1, some (78, uA)), (2, some (78, .ds [iD (IntKind.i64.wrap (1 * (((2 ^ (1 + (kB l 7))) : Nat) : Int))), qI, qI, qI]))] 3 ⟨(qW l 7 (kP : Byt l)), ⟨by omega, by omega⟩, (by first | rfl | omega), zo⟩ ?_
 refine AW.seq ?_
 have hx3 : ((((((kB (kA l 7) 3) : Nat) : Int) < 3) ∨ ((kB (kA l 7) 3) = 0)) ∧ ((kB (kA l 7) 3) ≤ 255)) := kQ (kA l 7) (3 : Int) (kP : Byt (kA l 7))
 have hx4 : (Byt (kA (kA l 7) 3)) := kF (3 : Int) (kP : Byt (kA l 7))
 refine kK [.no, .call [0] (uV (kB (kA l 7) 3)) [(0, some (66, .ds [db (kA (kA l 7) 3) (ka1 (kA (kA l 7) 3))]))] 1 [] none, .no] _ [(0, rV 0 0), (2, rV 1 0), (3, rV 2 0), (4, uV (kB (kA l 7) 3))] [(0, some (66, .ds [db (kA (kA l 7) 3) (ka1 (kA (kA l 7) 3))])), (1, some (78, uA)), (2, some (78, .ds [iD (IntKind.i64.wrap (1 * (((2 ^ (1 + (kB l 7))) : Nat) : Int))), qI, qI, qI]))] 3 (qW (kA l 7) 3 (kP : Byt (kA l 7))) ?_
 refine AW.block ?_
 refine kW 1 hcx (fun (x : {x : Nat × Int // match x with | (i, y) => (i ≤ kB (kA l 7) 3) ∧ (knK (kA (kA l 7) 3) (kbV l) i = y)}) => match x with | ⟨(i, y), _⟩ => (⟨[(0, rV 0 0), (2, rV 1 0), (3, rV 2 0), (4, iV ((kB (kA l 7) 3 : Int) - (i : Int)))], [(0, some (66, (gE l i))), (1, some (78, uA)), (2, some (78, (gD y)))], 3⟩ : ES)) (fun x => match x with | ⟨(i, y), _⟩ => kB (kA l 7) 3 - i) ⟨((0 : Nat), ((IntKind.i64.wrap (1 * (((2 ^ (1 + (kB l 7))) : Nat) : Int))) : Int)), ⟨aG, rfl⟩⟩ [] (P := (kN 0) ∧ (kN 0) ∧ (kN 0) ∧ ((((kB (kA l 7) 3 : Int) - 0) : Int) = (kB (kA l 7) 3 : Int)) ∧ (([db (aY (kA (kA l 7) 3) 0) (ka1 (aY (kA (kA l 7) 3) 0))] : List D) = [db (kA (kA l 7) 3) (ka1 (kA (kA l 7) 3))]) ∧ (k8 [iD 0, qI, qI, qI]) ∧ (k8 [iD (IntKind.i64.wrap (1 * (((2 ^ (1 + (kB l 7))) : Nat) : Int))), qI, qI, qI])) zk ⟨rfl, rfl, rfl, bC, (by first | rfl | with_reducible assumption | (simp only [yP, uB, qN]; rfl) | (congr 1; first | assumption | (simp; done) | omega)), rfl, rfl⟩ ?_
 rintro ⟨⟨i, y⟩, hinv0⟩
 obtain ⟨hi, hy⟩ : (i ≤ kB (kA l 7) 3) ∧ (knK (kA (kA l 7) 3) (kbV l) i = y) := hinv0
 refine uH (l := [(0, rV 0 0), (2, rV 1 0), (3, rV 2 0), (4, iV ((kB (kA l 7) 3 : Int) - (i : Int)))]) (g := [(0, some (66, (gE l i))), (1, some (78, uA)), (2, some (78, (gD y)))]) (nx := 3) rfl rfl rfl ?_
 refine AW.seq ?_
 by_cases hx5 : ((0 : Int) < ((((kB (kA l 7) 3) : Nat) : Int) - ((i : Nat) : Int)))
 ·refine kK [.no, .b true] (((0 : Int) < ((kB (kA l 7) 3 : Int) - (i : Int)))) [(0, rV 0 0), (2, rV 1 0), (3, rV 2 0), (4, iV ((kB (kA l 7) 3 : Int) - ↑i)), (18, bV true)] [(0, some (66, (gE l i))), (1, some (78, uA)), (2, some (78, (gD y)))] 3 zo ?_
  refine vD ?_
  refine AW.seq ?_
  refine AW.block ?_
  have hx6 : ((((((kB (aY (kA (kA l 7) 3) i) 7) : Nat) : Int) < 7) ∨ ((kB (aY (kA (kA l 7) 3) i) 7) = 0)) ∧ ((kB (aY (kA (kA l 7) 3) i) 7) ≤ 255)) := kQ (aY (kA (kA l 7) 3) i) (7 : Int) ((yW (kP : Byt (kA (kA l 7) 3)) _))
  have hx7 : (Byt (kA (aY (kA (kA l 7) 3) i) 7)) := kF (7 : Int) ((yW (kP : Byt (kA (kA l 7) 3)) _))
  refine cB [.no, .no, .no, .call [0] (iV (kB (aY (kA (kA l 7) 3) i) 7 : Int)) [(0, some (66, .ds [db (kA (aY (kA (kA l 7) 3) i) 7) (ka1 (kA (aY (kA (kA l 7) 3) i) 7))]))] 1 [] none, .w, .n2 (1 + (kB (aY (kA (kA l 7) 3) i) 7)) 0, .i (orI y (IntKind.i64.wrap (1 * (((2 ^ (1 + (kB (aY (kA (kA l 7) 3) i) 7))) : Nat) : Int)))), .no, .no] ((_) ∧ ((-9223372036854775808) ≤ (1 + (kB (aY (kA (kA l 7) 3) i) 7 : Int)) ∧ (1 + (kB (aY (kA (kA l 7) 3) i) 7 : Int)) ≤ 9223372036854775807) ∧ (((1 + (kB (aY (kA (kA l 7) 3) i) 7 : Int)) : Int) = (((1 + (kB (aY (kA (kA l 7) 3) i) 7)) : Nat) : Int)) ∧ ((1 + (kB (aY (kA (kA l 7) 3) i) 7)) ≤ 64) ∧ (qM .or .i64 y (IntKind.i64.wrap (1 * (((2 ^ (1 + (kB (aY (kA (kA l 7) 3) i) 7))) : Nat) : Int))) = (orI y (IntKind.i64.wrap (1 * (((2 ^ (1 + (kB (aY (kA (kA l 7) 3) i) 7))) : Nat) : Int)))))) [(0, rV 0 0), (2, rV 1 0), (3, rV 2 0), (4, iV ((kB (kA l 7) 3 : Int) - ↑i))] [(0, some (66, .ds [db (kA (aY (kA (kA l 7) 3) i) 7) (ka1 (kA (aY (kA (kA l 7) 3) i) 7))])), (1, some (78, uA)), (2, some (78, .ds [iD (orI y (IntKind.i64.wrap (1 * (((2 ^ (1 + (kB (aY (kA (kA l 7) 3) i) 7))) : Nat) : Int)))), qI, qI, qI]))] 3 ⟨(qW (aY (kA (kA l 7) 3) i) 7 (yW (kP : Byt (kA (kA l 7) 3)) _)), ⟨by omega, by omega⟩, (by first | rfl | omega), zo, rfl⟩ ?_
  refine yD [.no, .w, .no] (qL (((kB (kA l 7) 3 : Int) - (i : Int)) - 1)) [(0, rV 0 0), (2, rV 1 0), (3, rV 2 0), (4, iV (((kB (kA l 7) 3 : Int) - ↑i) - 1))] ⟨by omega, by omega⟩ ?_
  exact qS ⟨(((i + 1) : Nat), ((orI y (IntKind.i64.wrap (1 * (((2 ^ (1 + (kB (aY (kA (kA l 7) 3) i) 7))) : Nat) : Int)))) : Int)), ⟨aG, (u5l hy rfl)⟩⟩ [] (P := (kN 0) ∧ (kN 0) ∧ (kN 0) ∧ ((((kB (kA l 7) 3 : Int) - (((i + 1) : Nat) : Int)) : Int) = (((kB (kA l 7) 3 : Int) - (i : Int)) - 1)) ∧ (([db (aY (kA (kA l 7) 3) (i + 1)) (ka1 (aY (kA (kA l 7) 3) (i + 1)))] : List D) = [db (kA (aY (kA (kA l 7) 3) i) 7) (ka1 (kA (aY (kA (kA l 7) 3) i) 7))]) ∧ (k8 [iD 0, qI, qI, qI]) ∧ (k8 [iD (orI y (IntKind.i64.wrap (1 * (((2 ^ (1 + (kB (aY (kA (kA l 7) 3) i) 7))) : Nat) : Int)))), qI, qI, qI])) zk ⟨rfl, rfl, rfl, bC, (by first | rfl | with_reducible assumption | (simp only [yP, uB, qN]; rfl) | (congr 1; first | assumption | (simp; done) | omega)), rfl, rfl⟩ (show kB (kA l 7) 3 - (i + 1) < kB (kA l 7) 3 - i from dJ)
 ·refine kK [.no, .b false] (¬ ((0 : Int) < ((kB (kA l 7) 3 : Int) - (i : Int)))) [(0, rV 0 0), (2, rV 1 0), (3, rV 2 0), (4, iV ((kB (kA l 7) 3 : Int) - ↑i)), (18, bV false)] [(0, some (66, (gE l i))), (1, some (78, uA)), (2, some (78, (gD y)))] 3 zo ?_
  refine zf ?_
  refine AW.exit ?_
  obtain rfl : i = (kB (kA l 7) 3) := (by omega)
  refine kK (kS 6 [(.fz (.no)), .call [0] (.e (.agg [.d (dl (yB l) (yG (y1 qG (qF l) 5) (yY qG (qF l) 5)))])) [(0, some (66, .ds [db (kH l) (ka1 (kH l))]))] 1 [] none, .no, .no]) ((([iD 44100, iD 44100, iD 48000, iD 48000, iD 8000, iD 8000, iD 32000, iD 50000, iD 96000, iD 192000] : List D).length = 5 * 2) ∧ (_)) [(0, rV 0 0), (2, rV 1 0), (3, rV 2 0)] [(0, some (66, .ds [db (kH l) (ka1 (kH l))])), (1, some (78, uA)), (2, some (78, .ds [iD y, dl (yB l) (yG (y1 qG (qF l) 5) (yY qG (qF l) 5)), qI, qI]))] 4 ⟨bD, (k8w qG 5 (qF l) (by first | omega | with_reducible assumption | (simp only [kR, kO, ka4, kb1, kb6, kb3, kb2, kb4, kc2] <;> omega) | rfl | assumption) zo zo (yW (kP : Byt (kA (kA l 7) 3)) _))⟩ ?_
  refine kK (kS 5 [(.fz (.no)), .call [0] (.e (.agg [.d (dl (yJ l) (yG (y1 kJ (kH l) 4) (yY kJ (kH l) 4)))])) [(0, some (66, .ds [db (uZ kJ (kH l) 4) (ka1 (uZ kJ (kH l) 4))]))] 1 [] none, .no, .no]) ((([iD 16, iD 64, iD 64, iD 1024, iD 2048, iD 2048, iD 1, iD 65536] : List D).length = 4 * 2) ∧ (_)) [(0, rV 0 0), (2, rV 1 0), (3, rV 2 0)] [(0, some (66, .ds [db (uZ kJ (kH l) 4) (ka1 (uZ kJ (kH l) 4))])), (1, some (78, uA)), (2, some (78, .ds [iD y, dl (yB l) (yG (y1 qG (qF l) 5) (yY qG (qF l) 5)), qI, dl (yJ l) (yG (y1 kJ (kH l) 4) (yY kJ (kH l) 4))]))] 5 ⟨bD, (k8w kJ 4 (kH l) (by first | omega | with_reducible assumption | (simp only [kR, kO, ka4, kb1, kb6, kb3, kb2, kb4, kc2] <;> omega) | rfl | assumption) zo zo (y8 (yW (kP : Byt (kA (kA l 7) 3)) _)))⟩ ?_
  refine AW.seq ?_
  have hx8 : ((((((kB (uZ kJ (kH l) 4) 3) : Nat) : Int) < 3) ∨ ((kB (uZ kJ (kH l) 4) 3) = 0)) ∧ ((kB (uZ kJ (kH l) 4) 3) ≤ 255)) := kQ (uZ kJ (kH l) 4) (3 : Int) ((y8 (y8 (yW (kP : Byt (kA (kA l 7) 3)) _))))
  have hx9 : (Byt (uP l)) := kF (3 : Int) ((y8 (y8 (yW (kP : Byt (kA (kA l 7) 3)) _))))
  refine kK [.no, .call [0] (uV (kB (uZ kJ (kH l) 4) 3)) [(0, some (66, .ds [db (uP l) (ka1 (uP l))]))] 1 [] none, .w, .no] ((_) ∧ (qL (1 + (kB (uZ kJ (kH l) 4) 3 : Int)))) [(0, rV 0 0), (2, rV 1 0), (3, rV 2 0), (5, iV (1 + (kB (uZ kJ (kH l) 4) 3 : Int)))] [(0, some (66, .ds [db (uP l) (ka1 (uP l))])), (1, some (78, uA)), (2, some (78, .ds [iD y, dl (yB l) (yG (y1 qG (qF l) 5) (yY qG (qF l) 5)), qI, dl (yJ l) (yG (y1 kJ (kH l) 4) (yY kJ (kH l) 4))]))] 5 ⟨(qW (uZ kJ (kH l) 4) 3 (y8 (y8 (yW (kP : Byt (kA (kA l 7) 3)) _)))), ⟨by omega, by omega⟩⟩ ?_
  refine AW.block ?_
  refine l6 2 2 1 63 (cs' := [iC y, .d (dl (yB l) (yG (y1 qG (qF l) 5) (yY qG (qF l) 5))), .own 5 0 0 1 true, .d (dl (yJ l) (yG (y1 kJ (kH l) 4) (yY kJ (kH l) 4)))]) rfl rfl rfl ?_
  refine kW 1 hcx (fun (x : {x : Nat × Nat × List (List Int) // match x with | (i2, q, ms) => (i2 ≤ 1 + kB (uZ kJ (kH l) 4) 3) ∧ (jR (uP l) i2 = ms) ∧ (ka1 ms = q ∧ q ≤ i2) ∧ (MsN ms) ∧ (MsW ms)}) => match x with | ⟨(i2, q, ms), _⟩ => (⟨[(0, rV 0 0), (2, rV 1 0), (3, rV 2 0), (5, iV ((((1 + (kB (uZ kJ (kH l) 4) 3)) : Nat) : Int) - (i2 : Int)))], [(0, some (66, .ds [db (kI l i2) (ka1 (kI l i2))])), (1, some (78, uA)), (2, some (78, (yV y l q))), (6, some (63, .ds (k9 ms)))], 7⟩ : ES)) (fun x => match x with | ⟨(i2, q, ms), _⟩ => 1 + kB (uZ kJ (kH l) 4) 3 - i2) ⟨((0 : Nat), (0 : Nat), (([] : List (List Int)) : List (List Int))), ⟨aG, rfl, ⟨rfl, by omega⟩, MsN.nil, MsW.nil⟩⟩ [(6, 5)] (P := (kN 0) ∧ (kN 0) ∧ (kN 0) ∧ ((((((1 + (kB (uZ kJ (kH l) 4) 3)) : Nat) : Int) - 0) : Int) = (1 + (kB (uZ kJ (kH l) 4) 3 : Int))) ∧ (([db (jS (uP l) 0) (ka1 (jS (uP l) 0))] : List D) = [db (uP l) (ka1 (uP l))]) ∧ (k8 [iD 0, qI, qI, qI]) ∧ (kM y) ∧ (k8 (dI .i64 (yB l))) ∧ (kN (yG (y1 qG (qF l) 5) (yY qG (qF l) 5))) ∧ (kN 0) ∧ (kN 0) ∧ (k8 (dI .i64 (yJ l))) ∧ (kN (yG (y1 kJ (kH l) 4) (yY kJ (kH l) 4))) ∧ (((k9 ([] : List (List Int))) : List D) = ([] : List D))) zk ⟨rfl, rfl, rfl, bC, (by first | rfl | with_reducible assumption), rfl, rfl, rfl, rfl, rfl, rfl, rfl, rfl, (by first | rfl | with_reducible assumption)⟩ ?_
  rintro ⟨⟨i2, q, ms⟩, hinv1⟩
  obtain ⟨hi2, hm, hq, hN, hW⟩ : (i2 ≤ 1 + kB (uZ kJ (kH l) 4) 3) ∧ (jR (uP l) i2 = ms) ∧ (ka1 ms = q ∧ q ≤ i2) ∧ (MsN ms) ∧ (MsW ms) := hinv1
  refine uH (l := [(0, rV 0 0), (2, rV 1 0), (3, rV 2 0), (5, iV ((((1 + (kB (uZ kJ (kH l) 4) 3)) : Nat) : Int) - (i2 : Int)))]) (g := [(0, some (66, .ds [db (kI l i2) (ka1 (kI l i2))])), (1, some (78, uA)), (2, some (78, (yV y l q))), (6, some (63, .ds (k9 ms)))]) (nx := 7) rfl rfl rfl ?_
  refine AW.seq ?_
  by_cases hx10 : ((0 : Int) < ((((1 + (kB (uZ kJ (kH l) 4) 3)) : Nat) : Int) - ((i2 : Nat) : Int)))
  ·refine kK [.no, .b true] (((0 : Int) < ((((1 + (kB (uZ kJ (kH l) 4) 3)) : Nat) : Int) - (i2 : Int)))) [(0, rV 0 0), (2, rV 1 0), (3, rV 2 0), (5, iV ((((1 + (kB (uZ kJ (kH l) 4) 3)) : Nat) : Int) - ↑i2)), (50, bV true)] [(0, some (66, .ds [db (kI l i2) (ka1 (kI l i2))])), (1, some (78, uA)), (2, some (78, (yV y l q))), (6, some (63, .ds (k9 ms)))] 7 zo ?_
   refine vD ?_
   refine AW.seq ?_
   refine AW.block ?_
   have hx11 : (((1 : Nat) ≤ (ka1 (uL (kI l i2)))) ∧ ((ka1 (uL (kI l i2))) ≤ 6)) := (k5z ((eB (kP : Byt (uP l)) _)))
   refine kK [.no, .call [0] (sV .i64 (uL (kI l i2)) (ka1 (uL (kI l i2)))) [(0, some (66, (yN l i2)))] 1 [] none, .no] _ [(0, rV 0 0), (2, rV 1 0), (3, rV 2 0), (5, iV ((((1 + (kB (uZ kJ (kH l) 4) 3)) : Nat) : Int) - ↑i2)), (6, sV .i64 (uL (kI l i2)) (ka1 (uL (kI l i2))))] [(0, some (66, (yN l i2))), (1, some (78, uA)), (2, some (78, (yV y l q))), (6, some (63, .ds (k9 ms)))] 7 (u4a (kI l i2) (eB (kP : Byt (uP l)) _)) ?_
   refine kX [.no] True [(0, rV 0 0), (2, rV 1 0), (3, rV 2 0), (5, iV ((((1 + (kB (uZ kJ (kH l) 4) 3)) : Nat) : Int) - ↑i2)), (6, sV .i64 (uL (kI l i2)) (ka1 (uL (kI l i2)))), (7, bV false)] trivial ?_
   refine AW.seq ?_
   refine kX (kS 4 []) True [(0, rV 0 0), (2, rV 1 0), (3, rV 2 0), (5, iV ((((1 + (kB (uZ kJ (kH l) 4) 3)) : Nat) : Int) - ↑i2)), (6, sV .i64 (uL (kI l i2)) (ka1 (uL (kI l i2)))), (7, bV false), (56, oV 6 0 q 1), (57, uV q), (58, iV 0)] trivial ?_
   refine AW.block ?_
   refine kW 1 hcx (fun (x : {x : Nat × Bool // match x with | (j, f) => (j ≤ q) ∧ (jO (ka2 j ms) (uL (kI l i2)) = f)}) => match x with | ⟨(j, f), _⟩ => (⟨[(0, rV 0 0), (2, rV 1 0), (3, rV 2 0), (5, iV ((((1 + (kB (uZ kJ (kH l) 4) 3)) : Nat) : Int) - (i2 : Int))), (6, sV .i64 (uL (kI l i2)) (ka1 (uL (kI l i2)))), (7, kT (D.lit (.bool (f)))), (56, oV 6 0 q 1), (57, uV q), (58, uV j)], [(0, some (66, (yN l i2))), (1, some (78, uA)), (2, some (78, (yV y l q))), (6, some (63, .ds (k9 ms)))], 7⟩ : ES)) (fun x => match x with | ⟨(j, f), _⟩ => q - j) ⟨((0 : Nat), (false : Bool)), ⟨aG, (u55 _ _)⟩⟩ [] (P := (kN 0) ∧ (kN 0) ∧ (kN 0) ∧ (kM ((((1 + (kB (uZ kJ (kH l) 4) 3)) : Nat) : Int) - (i2 : Int))) ∧ (k8 (dI .i64 (uL (kI l i2)))) ∧ (kN (ka1 (uL (kI l i2)))) ∧ ((false) = false) ∧ (kN 0) ∧ (kN q) ∧ (kM (q : Int)) ∧ (kM 0) ∧ (k8 [db (kA (kI l i2) 7) (ka1 (kA (kI l i2) 7))]) ∧ (k8 [iD 0, qI, qI, qI]) ∧ (kM y) ∧ (k8 (dI .i64 (yB l))) ∧ (kN (yG (y1 qG (qF l) 5) (yY qG (qF l) 5))) ∧ (kN 0) ∧ (kN q) ∧ (k8 (dI .i64 (yJ l))) ∧ (kN (yG (y1 kJ (kH l) 4) (yY kJ (kH l) 4))) ∧ (k8 (k9 ms))) zk ⟨rfl, rfl, rfl, rfl, rfl, rfl, gU, rfl, rfl, rfl, rfl, rfl, rfl, rfl, rfl, rfl, rfl, rfl, rfl, rfl, rfl⟩ ?_
   rintro ⟨⟨j, f⟩, hinv2⟩
   obtain ⟨hj, hf⟩ : (j ≤ q) ∧ (jO (ka2 j ms) (uL (kI l i2)) = f) := hinv2
   refine uH (l := [(0, rV 0 0), (2, rV 1 0), (3, rV 2 0), (5, iV ((((1 + (kB (uZ kJ (kH l) 4) 3)) : Nat) : Int) - (i2 : Int))), (6, sV .i64 (uL (kI l i2)) (ka1 (uL (kI l i2)))), (7, kT (D.lit (.bool (f)))), (56, oV 6 0 q 1), (57, uV q), (58, uV j)]) (g := [(0, some (66, (yN l i2))), (1, some (78, uA)), (2, some (78, (yV y l q))), (6, some (63, .ds (k9 ms)))]) (nx := 7) rfl rfl rfl ?_
   by_cases hx12 : (((j : Nat) : Int) < ((q : Nat) : Int))
   ·refine kK [.b true] (((j : Int) < (q : Int))) [(0, rV 0 0), (2, rV 1 0), (3, rV 2 0), (5, iV ((((1 + (kB (uZ kJ (kH l) 4) 3)) : Nat) : Int) - ↑i2)), (6, sV .i64 (uL (kI l i2)) (ka1 (uL (kI l i2)))), (7, kT (D.lit (.bool (f)))), (56, oV 6 0 q 1), (57, uV q), (58, uV j), (59, bV true)] [(0, some (66, (yN l i2))), (1, some (78, uA)), (2, some (78, (yV y l q))), (6, some (63, .ds (k9 ms)))] 7 zo ?_
    refine AW.seq ?_
    refine vD ?_
    refine AW.seq ?_
    refine AW.block ?_
    have hx13 : ((ka1 (ka0 ms j ([] : List Int))) ≤ 1000000) := MsW.at (kP : MsW ms) _
    refine kX [.n2 j j, .d (dl (ka0 ms j ([] : List Int)) (ka1 (ka0 ms j ([] : List Int)))), .no] ((kM (j : Int)) ∧ (j < q) ∧ ((0 : Nat) + j * 1 = j) ∧ ((k9 ms)[j]? = some (dl (ka0 ms j ([] : List Int)) (ka1 (ka0 ms j ([] : List Int)))))) [(0, rV 0 0), (2, rV 1 0), (3, rV 2 0), (5, iV ((((1 + (kB (uZ kJ (kH l) 4) 3)) : Nat) : Int) - ↑i2)), (6, sV .i64 (uL (kI l i2)) (ka1 (uL (kI l i2)))), (7, kT (D.lit (.bool (f)))), (9, sV .i64 (ka0 ms j ([] : List Int)) (ka1 (ka0 ms j ([] : List Int)))), (56, oV 6 0 q 1), (57, uV q), (58, uV j)] ⟨rfl, zo, zo, (k5w _ _ (by first | omega | (simp only [kR, kO, ka4, kb1, kb6, kb3, kb2] <;> omega)))⟩ ?_
    rcases Bool.eq_false_or_eq_true (f) with hx15 | hx15
    ·subst hx15
     have hx16 : 1 ≤ ka1 (ka0 ms j ([] : List Int)) := hN.at zo
     refine cB (kS 4 []) True [(0, rV 0 0), (2, rV 1 0), (3, rV 2 0), (5, iV ((((1 + (kB (uZ kJ (kH l) 4) 3)) : Nat) : Int) - ↑i2)), (6, sV .i64 (uL (kI l i2)) (ka1 (uL (kI l i2)))), (7, bV true), (56, oV 6 0 q 1), (57, uV q), (58, uV j)] [(0, some (66, (yN l i2))), (1, some (78, uA)), (2, some (78, (yV y l q))), (6, some (63, .ds (k9 ms)))] 7 trivial ?_
     refine yD [.w, .no] (qL ((j : Int) + 1)) [(0, rV 0 0), (2, rV 1 0), (3, rV 2 0), (5, iV ((((1 + (kB (uZ kJ (kH l) 4) 3)) : Nat) : Int) - ↑i2)), (6, sV .i64 (uL (kI l i2)) (ka1 (uL (kI l i2)))), (7, bV true), (56, oV 6 0 q 1), (57, uV q), (58, iV (↑j + 1))] ⟨by omega, by omega⟩ ?_
     exact qS ⟨(((j + 1) : Nat), (true : Bool)), ⟨aG, (by first | exact k59 zo hf | exact k5b zo zo | exact k5a zo hf zo)⟩⟩ [] (P := (kN 0) ∧ (kN 0) ∧ (kN 0) ∧ (kM ((((1 + (kB (uZ kJ (kH l) 4) 3)) : Nat) : Int) - (i2 : Int))) ∧ (k8 (dI .i64 (uL (kI l i2)))) ∧ (kN (ka1 (uL (kI l i2)))) ∧ ((true) = true) ∧ (kN 0) ∧ (kN q) ∧ (kM (q : Int)) ∧ (((((j + 1) : Nat) : Int) : Int) = ((j : Int) + 1)) ∧ (k8 [db (kA (kI l i2) 7) (ka1 (kA (kI l i2) 7))]) ∧ (k8 [iD 0, qI, qI, qI]) ∧ (kM y) ∧ (k8 (dI .i64 (yB l))) ∧ (kN (yG (y1 qG (qF l) 5) (yY qG (qF l) 5))) ∧ (kN 0) ∧ (kN q) ∧ (k8 (dI .i64 (yJ l))) ∧ (kN (yG (y1 kJ (kH l) 4) (yY kJ (kH l) 4))) ∧ (k8 (k9 ms))) zk ⟨rfl, rfl, rfl, rfl, rfl, rfl, gU, rfl, rfl, rfl, bC, rfl, rfl, rfl, rfl, rfl, rfl, rfl, rfl, rfl, rfl⟩ (show q - (j + 1) < q - j from dJ)
    ·subst hx15
     by_cases hx18 : ((((ka1 (ka0 ms j ([] : List Int))) : Nat) : Int) = (((ka1 (uL (kI l i2))) : Nat) : Int))
     ·by_cases hx20 : ((ka0 (ka0 ms j ([] : List Int)) 0 0) = (ka0 (uL (kI l i2)) 0 0))
      ·have hx21 : 1 ≤ ka1 (ka0 ms j ([] : List Int)) := hN.at zo
       refine cB (kS 6 [.b true, .no, .no, .n 0, .d (D.lit (.int .i64 (ka0 (ka0 ms j ([] : List Int)) 0 0))), .no, .n 0, .d (D.lit (.int .i64 (ka0 (uL (kI l i2)) 0 0))), .b true, .no, .no, .no]) ((((((ka1 (ka0 ms j ([] : List Int))) : Nat) : Int) = (ka1 (uL (kI l i2)) : Int))) ∧ (kM 0) ∧ ((0 : Nat) < (ka1 (ka0 ms j ([] : List Int)))) ∧ ((ka7 0 (dI .i64 (ka0 ms j ([] : List Int))))[0]? = some (D.lit (.int .i64 (ka0 (ka0 ms j ([] : List Int)) 0 0)))) ∧ (kM 0) ∧ ((0 : Nat) < (ka1 (uL (kI l i2)))) ∧ ((ka7 0 (dI .i64 (uL (kI l i2))))[0]? = some (D.lit (.int .i64 (ka0 (uL (kI l i2)) 0 0)))) ∧ (((ka0 (ka0 ms j ([] : List Int)) 0 0) = (ka0 (uL (kI l i2)) 0 0)))) [(0, rV 0 0), (2, rV 1 0), (3, rV 2 0), (5, iV ((((1 + (kB (uZ kJ (kH l) 4) 3)) : Nat) : Int) - ↑i2)), (6, sV .i64 (uL (kI l i2)) (ka1 (uL (kI l i2)))), (7, bV true), (56, oV 6 0 q 1), (57, uV q), (58, uV j)] [(0, some (66, (yN l i2))), (1, some (78, uA)), (2, some (78, (yV y l q))), (6, some (63, .ds (k9 ms)))] 7 ⟨zo, rfl, zo, (qQ _ _ _ bD), rfl, zo, (qQ _ _ _ bD), zo⟩ ?_
       refine yD [.w, .no] (qL ((j : Int) + 1)) [(0, rV 0 0), (2, rV 1 0), (3, rV 2 0), (5, iV ((((1 + (kB (uZ kJ (kH l) 4) 3)) : Nat) : Int) - ↑i2)), (6, sV .i64 (uL (kI l i2)) (ka1 (uL (kI l i2)))), (7, bV true), (56, oV 6 0 q 1), (57, uV q), (58, iV (↑j + 1))] ⟨by omega, by omega⟩ ?_
       exact qS ⟨(((j + 1) : Nat), (true : Bool)), ⟨aG, (by first | exact k59 zo hf | exact k5b zo zo | exact k5a zo hf zo)⟩⟩ [] (P := (kN 0) ∧ (kN 0) ∧ (kN 0) ∧ (kM ((((1 + (kB (uZ kJ (kH l) 4) 3)) : Nat) : Int) - (i2 : Int))) ∧ (k8 (dI .i64 (uL (kI l i2)))) ∧ (kN (ka1 (uL (kI l i2)))) ∧ ((true) = true) ∧ (kN 0) ∧ (kN q) ∧ (kM (q : Int)) ∧ (((((j + 1) : Nat) : Int) : Int) = ((j : Int) + 1)) ∧ (k8 [db (kA (kI l i2) 7) (ka1 (kA (kI l i2) 7))]) ∧ (k8 [iD 0, qI, qI, qI]) ∧ (kM y) ∧ (k8 (dI .i64 (yB l))) ∧ (kN (yG (y1 qG (qF l) 5) (yY qG (qF l) 5))) ∧ (kN 0) ∧ (kN q) ∧ (k8 (dI .i64 (yJ l))) ∧ (kN (yG (y1 kJ (kH l) 4) (yY kJ (kH l) 4))) ∧ (k8 (k9 ms))) zk ⟨rfl, rfl, rfl, rfl, rfl, rfl, gU, rfl, rfl, rfl, bC, rfl, rfl, rfl, rfl, rfl, rfl, rfl, rfl, rfl, rfl⟩ (show q - (j + 1) < q - j from dJ)
      ·have hx22 : 1 ≤ ka1 (ka0 ms j ([] : List Int)) := hN.at zo
       refine cB (kS 6 [.b true, .no, .no, .n 0, .d (D.lit (.int .i64 (ka0 (ka0 ms j ([] : List Int)) 0 0))), .no, .n 0, .d (D.lit (.int .i64 (ka0 (uL (kI l i2)) 0 0))), .b false, .no, .no, .no]) ((((((ka1 (ka0 ms j ([] : List Int))) : Nat) : Int) = (ka1 (uL (kI l i2)) : Int))) ∧ (kM 0) ∧ ((0 : Nat) < (ka1 (ka0 ms j ([] : List Int)))) ∧ ((ka7 0 (dI .i64 (ka0 ms j ([] : List Int))))[0]? = some (D.lit (.int .i64 (ka0 (ka0 ms j ([] : List Int)) 0 0)))) ∧ (kM 0) ∧ ((0 : Nat) < (ka1 (uL (kI l i2)))) ∧ ((ka7 0 (dI .i64 (uL (kI l i2))))[0]? = some (D.lit (.int .i64 (ka0 (uL (kI l i2)) 0 0)))) ∧ (¬ ((ka0 (ka0 ms j ([] : List Int)) 0 0) = (ka0 (uL (kI l i2)) 0 0)))) [(0, rV 0 0), (2, rV 1 0), (3, rV 2 0), (5, iV ((((1 + (kB (uZ kJ (kH l) 4) 3)) : Nat) : Int) - ↑i2)), (6, sV .i64 (uL (kI l i2)) (ka1 (uL (kI l i2)))), (7, bV false), (56, oV 6 0 q 1), (57, uV q), (58, uV j)] [(0, some (66, (yN l i2))), (1, some (78, uA)), (2, some (78, (yV y l q))), (6, some (63, .ds (k9 ms)))] 7 ⟨zo, rfl, zo, (qQ _ _ _ bD), rfl, zo, (qQ _ _ _ bD), zo⟩ ?_
       refine yD [.w, .no] (qL ((j : Int) + 1)) [(0, rV 0 0), (2, rV 1 0), (3, rV 2 0), (5, iV ((((1 + (kB (uZ kJ (kH l) 4) 3)) : Nat) : Int) - ↑i2)), (6, sV .i64 (uL (kI l i2)) (ka1 (uL (kI l i2)))), (7, bV false), (56, oV 6 0 q 1), (57, uV q), (58, iV (↑j + 1))] ⟨by omega, by omega⟩ ?_
       exact qS ⟨(((j + 1) : Nat), (false : Bool)), ⟨aG, (by first | exact k59 zo hf | exact k5b zo zo | exact k5a zo hf zo)⟩⟩ [] (P := (kN 0) ∧ (kN 0) ∧ (kN 0) ∧ (kM ((((1 + (kB (uZ kJ (kH l) 4) 3)) : Nat) : Int) - (i2 : Int))) ∧ (k8 (dI .i64 (uL (kI l i2)))) ∧ (kN (ka1 (uL (kI l i2)))) ∧ ((false) = false) ∧ (kN 0) ∧ (kN q) ∧ (kM (q : Int)) ∧ (((((j + 1) : Nat) : Int) : Int) = ((j : Int) + 1)) ∧ (k8 [db (kA (kI l i2) 7) (ka1 (kA (kI l i2) 7))]) ∧ (k8 [iD 0, qI, qI, qI]) ∧ (kM y) ∧ (k8 (dI .i64 (yB l))) ∧ (kN (yG (y1 qG (qF l) 5) (yY qG (qF l) 5))) ∧ (kN 0) ∧ (kN q) ∧ (k8 (dI .i64 (yJ l))) ∧ (kN (yG (y1 kJ (kH l) 4) (yY kJ (kH l) 4))) ∧ (k8 (k9 ms))) zk ⟨rfl, rfl, rfl, rfl, rfl, rfl, gU, rfl, rfl, rfl, bC, rfl, rfl, rfl, rfl, rfl, rfl, rfl, rfl, rfl, rfl⟩ (show q - (j + 1) < q - j from dJ)
     ·have hx23 : 1 ≤ ka1 (ka0 ms j ([] : List Int)) := hN.at zo
      refine cB (kS 6 (.b false :: kS 4 [])) (¬ ((((ka1 (ka0 ms j ([] : List Int))) : Nat) : Int) = (ka1 (uL (kI l i2)) : Int))) [(0, rV 0 0), (2, rV 1 0), (3, rV 2 0), (5, iV ((((1 + (kB (uZ kJ (kH l) 4) 3)) : Nat) : Int) - ↑i2)), (6, sV .i64 (uL (kI l i2)) (ka1 (uL (kI l i2)))), (7, bV false), (56, oV 6 0 q 1), (57, uV q), (58, uV j)] [(0, some (66, (yN l i2))), (1, some (78, uA)), (2, some (78, (yV y l q))), (6, some (63, .ds (k9 ms)))] 7 zo ?_
      refine yD [.w, .no] (qL ((j : Int) + 1)) [(0, rV 0 0), (2, rV 1 0), (3, rV 2 0), (5, iV ((((1 + (kB (uZ kJ (kH l) 4) 3)) : Nat) : Int) - ↑i2)), (6, sV .i64 (uL (kI l i2)) (ka1 (uL (kI l i2)))), (7, bV false), (56, oV 6 0 q 1), (57, uV q), (58, iV (↑j + 1))] ⟨by omega, by omega⟩ ?_
      exact qS ⟨(((j + 1) : Nat), (false : Bool)), ⟨aG, (by first | exact k59 zo hf | exact k5b zo zo | exact k5a zo hf zo)⟩⟩ [] (P := (kN 0) ∧ (kN 0) ∧ (kN 0) ∧ (kM ((((1 + (kB (uZ kJ (kH l) 4) 3)) : Nat) : Int) - (i2 : Int))) ∧ (k8 (dI .i64 (uL (kI l i2)))) ∧ (kN (ka1 (uL (kI l i2)))) ∧ ((false) = false) ∧ (kN 0) ∧ (kN q) ∧ (kM (q : Int)) ∧ (((((j + 1) : Nat) : Int) : Int) = ((j : Int) + 1)) ∧ (k8 [db (kA (kI l i2) 7) (ka1 (kA (kI l i2) 7))]) ∧ (k8 [iD 0, qI, qI, qI]) ∧ (kM y) ∧ (k8 (dI .i64 (yB l))) ∧ (kN (yG (y1 qG (qF l) 5) (yY qG (qF l) 5))) ∧ (kN 0) ∧ (kN q) ∧ (k8 (dI .i64 (yJ l))) ∧ (kN (yG (y1 kJ (kH l) 4) (yY kJ (kH l) 4))) ∧ (k8 (k9 ms))) zk ⟨rfl, rfl, rfl, rfl, rfl, rfl, gU, rfl, rfl, rfl, bC, rfl, rfl, rfl, rfl, rfl, rfl, rfl, rfl, rfl, rfl⟩ (show q - (j + 1) < q - j from dJ)
   ·refine kK [.b false] (¬ ((j : Int) < (q : Int))) [(0, rV 0 0), (2, rV 1 0), (3, rV 2 0), (5, iV ((((1 + (kB (uZ kJ (kH l) 4) 3)) : Nat) : Int) - ↑i2)), (6, sV .i64 (uL (kI l i2)) (ka1 (uL (kI l i2)))), (7, kT (D.lit (.bool (f)))), (56, oV 6 0 q 1), (57, uV q), (58, uV j), (59, bV false)] [(0, some (66, (yN l i2))), (1, some (78, uA)), (2, some (78, (yV y l q))), (6, some (63, .ds (k9 ms)))] 7 zo ?_
    refine AW.seq ?_
    refine zf ?_
    refine AW.exit ?_
    rcases Bool.eq_false_or_eq_true (f) with hx24 | hx24
    ·subst hx24
     refine kK [.no, .no] True [(0, rV 0 0), (2, rV 1 0), (3, rV 2 0), (5, iV ((((1 + (kB (uZ kJ (kH l) 4) 3)) : Nat) : Int) - ↑i2)), (6, sV .i64 (uL (kI l i2)) (ka1 (uL (kI l i2)))), (81, bV false)] [(0, some (66, (yN l i2))), (1, some (78, uA)), (2, some (78, (yV y l q))), (6, some (63, .ds (k9 ms)))] 7 trivial ?_
     refine yM ?_
     refine yD [.no, .w, .no] ((-9223372036854775808) ≤ (((((1 + (kB (uZ kJ (kH l) 4) 3)) : Nat) : Int) - (i2 : Int)) - 1) ∧ (((((1 + (kB (uZ kJ (kH l) 4) 3)) : Nat) : Int) - (i2 : Int)) - 1) ≤ 9223372036854775807) [(0, rV 0 0), (2, rV 1 0), (3, rV 2 0), (5, iV (((((1 + (kB (uZ kJ (kH l) 4) 3)) : Nat) : Int) - ↑i2) - 1))] ⟨by omega, by omega⟩ ?_
     exact qS ⟨(((i2 + 1) : Nat), (q : Nat), (ms : List (List Int))), ⟨aG, (by first | exact u31 hm (mT hq.1 zo hf) | exact u35 hm (mT hq.1 zo hf)), (by first | omega | (simp only [kR, kO, ka4, kb1, kb6] <;> omega)), (by first | assumption | exact hN.snoc zo), (by first | assumption | exact hW.snoc (ke9 (nL _) zo))⟩⟩ [] (P := (kN 0) ∧ (kN 0) ∧ (kN 0) ∧ ((((((1 + (kB (uZ kJ (kH l) 4) 3)) : Nat) : Int) - (((i2 + 1) : Nat) : Int)) : Int) = (((((1 + (kB (uZ kJ (kH l) 4) 3)) : Nat) : Int) - (i2 : Int)) - 1)) ∧ (([db (jS (uP l) (i2 + 1)) (ka1 (jS (uP l) (i2 + 1)))] : List D) = [db (kA (kI l i2) 7) (ka1 (kA (kI l i2) 7))]) ∧ (k8 [iD 0, qI, qI, qI]) ∧ (kM y) ∧ (k8 (dI .i64 (yB l))) ∧ (kN (yG (y1 qG (qF l) 5) (yY qG (qF l) 5))) ∧ (kN 0) ∧ (kN q) ∧ (k8 (dI .i64 (yJ l))) ∧ (kN (yG (y1 kJ (kH l) 4) (yY kJ (kH l) 4))) ∧ (k8 (k9 ms))) zk ⟨rfl, rfl, rfl, bC, (by first | rfl | with_reducible assumption), rfl, rfl, rfl, rfl, rfl, rfl, rfl, rfl, rfl⟩ (show 1 + kB (uZ kJ (kH l) 4) 3 - (i2 + 1) < 1 + kB (uZ kJ (kH l) 4) 3 - i2 from dJ)
    ·subst hx24
     refine kK [.no, .no] True [(0, rV 0 0), (2, rV 1 0), (3, rV 2 0), (5, iV ((((1 + (kB (uZ kJ (kH l) 4) 3)) : Nat) : Int) - ↑i2)), (6, sV .i64 (uL (kI l i2)) (ka1 (uL (kI l i2)))), (81, bV true)] [(0, some (66, (yN l i2))), (1, some (78, uA)), (2, some (78, (yV y l q))), (6, some (63, .ds (k9 ms)))] 7 trivial ?_
     refine zt ?_
     refine cB (kS 4 [.ap none (q + 1) (k9 (ms ++ ([(uL (kI l i2))] : List (List Int)))), .no, .no]) (([dl (uL (kI l i2)) (ka1 (uL (kI l i2)))].length = 1 * 1) ∧ (((k9 ms) : List D).length = q * 1) ∧ ((q + 1) * 24 ≤ 140737488355328) ∧ (q + 1 = (q + 1)) ∧ (((k9 ms) : List D) ++ [dl (uL (kI l i2)) (ka1 (uL (kI l i2)))] = (k9 (ms ++ ([(uL (kI l i2))] : List (List Int)))))) [(0, rV 0 0), (2, rV 1 0), (3, rV 2 0), (5, iV ((((1 + (kB (uZ kJ (kH l) 4) 3)) : Nat) : Int) - ↑i2))] [(0, some (66, (yN l i2))), (1, some (78, uA)), (2, some (78, .cs [iC y, .d (dl (yB l) (yG (y1 qG (qF l) 5) (yY qG (qF l) 5))), .own 8 0 (q + 1) 1 true, .d (dl (yJ l) (yG (y1 kJ (kH l) 4) (yY kJ (kH l) 4)))])), (8, some (63, .ds (k9 (ms ++ ([(uL (kI l i2))] : List (List Int))))))] 9 ⟨bD, bD, zo, zo, (xJ ms (uL (kI l i2)) (ka1 (uL (kI l i2))) (by first | rfl | omega))⟩ ?_
     refine yD [.no, .w, .no] ((-9223372036854775808) ≤ (((((1 + (kB (uZ kJ (kH l) 4) 3)) : Nat) : Int) - (i2 : Int)) - 1) ∧ (((((1 + (kB (uZ kJ (kH l) 4) 3)) : Nat) : Int) - (i2 : Int)) - 1) ≤ 9223372036854775807) [(0, rV 0 0), (2, rV 1 0), (3, rV 2 0), (5, iV (((((1 + (kB (uZ kJ (kH l) 4) 3)) : Nat) : Int) - ↑i2) - 1))] ⟨by omega, by omega⟩ ?_
     exact qS ⟨(((i2 + 1) : Nat), ((q + 1) : Nat), ((ms ++ ([(uL (kI l i2))] : List (List Int))) : List (List Int))), ⟨aG, (by first | exact u31 hm (mT hq.1 zo hf) | exact u35 hm (mT hq.1 zo hf)), (by first | omega | (simp only [kR, kO, ka4, kb1, kb6] <;> omega)), (by first | assumption | exact hN.snoc zo), (by first | assumption | exact hW.snoc (ke9 (nL _) zo))⟩⟩ [(6, 8)] (P := (kN 0) ∧ (kN 0) ∧ (kN 0) ∧ ((((((1 + (kB (uZ kJ (kH l) 4) 3)) : Nat) : Int) - (((i2 + 1) : Nat) : Int)) : Int) = (((((1 + (kB (uZ kJ (kH l) 4) 3)) : Nat) : Int) - (i2 : Int)) - 1)) ∧ (([db (jS (uP l) (i2 + 1)) (ka1 (jS (uP l) (i2 + 1)))] : List D) = [db (kA (kI l i2) 7) (ka1 (kA (kI l i2) 7))]) ∧ (k8 [iD 0, qI, qI, qI]) ∧ (kM y) ∧ (k8 (dI .i64 (yB l))) ∧ (kN (yG (y1 qG (qF l) 5) (yY qG (qF l) 5))) ∧ (kN 0) ∧ (kN (q + 1)) ∧ (k8 (dI .i64 (yJ l))) ∧ (kN (yG (y1 kJ (kH l) 4) (yY kJ (kH l) 4))) ∧ (k8 (k9 (ms ++ ([(uL (kI l i2))] : List (List Int)))))) zk ⟨rfl, rfl, rfl, bC, (by first | rfl | with_reducible assumption), rfl, rfl, rfl, rfl, rfl, rfl, rfl, rfl, rfl⟩ (show 1 + kB (uZ kJ (kH l) 4) 3 - (i2 + 1) < 1 + kB (uZ kJ (kH l) 4) 3 - i2 from dJ)
  ·refine kK [.no, .b false] (¬ ((0 : Int) < ((((1 + (kB (uZ kJ (kH l) 4) 3)) : Nat) : Int) - (i2 : Int)))) [(0, rV 0 0), (2, rV 1 0), (3, rV 2 0), (5, iV ((((1 + (kB (uZ kJ (kH l) 4) 3)) : Nat) : Int) - ↑i2)), (50, bV false)] [(0, some (66, .ds [db (kI l i2) (ka1 (kI l i2))])), (1, some (78, uA)), (2, some (78, (yV y l q))), (6, some (63, .ds (k9 ms)))] 7 zo ?_
   refine zf ?_
   refine AW.exit ?_
   refine kK [.no, .no] True [(2, rV 1 0)] [(0, some (66, .ds [db (kI l i2) (ka1 (kI l i2))])), (1, some (78, (yV y l q))), (6, some (63, .ds (k9 ms)))] 7 trivial ?_
   obtain rfl : i2 = (1 + (kB (uZ kJ (kH l) 4) 3)) := (by omega)
   refine AW.freeze 6 (l' := [(2, rV 1 0)]) (g' := [(0, some (66, .ds [db (jS (uP l) (1 + (kB (uZ kJ (kH l) 4) 3))) (ka1 (jS (uP l) (1 + (kB (uZ kJ (kH l) 4) 3))))])), (1, some (78, .ds [iD y, dl (yB l) (yG (y1 qG (qF l) 5) (yY qG (qF l) 5)), D.sl (k9 ms) q, dl (yJ l) (yG (y1 kJ (kH l) 4) (yY kJ (kH l) 4))]))]) rfl (FzS.cons rfl (.same _) FzS.nil) (uO rfl rfl (FzG.to (bc := .cs [iC y, .d (dl (yB l) (yG (y1 qG (qF l) 5) (yY qG (qF l) 5))), .own 6 0 q 1 true, .d (dl (yJ l) (yG (y1 kJ (kH l) 4) (yY kJ (kH l) 4)))]) rfl (by rfl) (FzL.cons (.same _) (FzL.cons (.same _) (FzL.cons (@FzC.own 6 ((k9 ms) : List D) 0 q 1 true ((k9 ms) : List D) (by rw [List.drop_zero, kc4, kc3 (by first | omega | (simp only [kR, kO, qK, ka4, kb1, kb6, kb3, kb2, kb4, kc2, kd0, kc7, kc4] <;> omega))]) bD) (FzL.cons (.same _) FzL.nil)))) FzG.nil)) ?_
   have hz1 : sH l = y := hy
   have hz2 : gC l = ms := hm
   refine AW.ret ?_
   exact kC (.inr rfl) [] (P := (((sH l) : Int) = y) ∧ (((dI .i64 (sG l)) : List D) = (dI .i64 (yB l))) ∧ (((o9 l) : Nat) = (yG (y1 qG (qF l) 5) (yY qG (qF l) 5))) ∧ (((k9 (gC l)) : List D) = (k9 ms)) ∧ (((ka1 (gC l)) : Nat) = q) ∧ (((dI .i64 (sF l)) : List D) = (dI .i64 (yJ l))) ∧ (((o8 l) : Nat) = (yG (y1 kJ (kH l) 4) (yY kJ (kH l) 4))) ∧ (([db (boD l) (ka1 (boD l))] : List D) = [db (jS (uP l) (1 + (kB (uZ kJ (kH l) 4) 3))) (ka1 (jS (uP l) (1 + (kB (uZ kJ (kH l) 4) 3))))])) zk ⟨(by first | rfl | exact hz1 | (rw [hz2]; omega) | omega), (by first | rfl | (rw [hz2]; done) | (rw [hz2]; rfl)), (by first | rfl | exact hz1 | (rw [hz2]; omega) | omega), (by first | rfl | (rw [hz2]; done) | (rw [hz2]; rfl)), (by first | rfl | exact hz1 | (rw [hz2]; omega) | omega), (by first | rfl | (rw [hz2]; done) | (rw [hz2]; rfl)), (by first | rfl | exact hz1 | (rw [hz2]; omega) | omega), (by first | rfl | (rw [hz2]; done) | (rw [hz2]; rfl))⟩
end Go.Proofs.Ytalbpleglapihaa
