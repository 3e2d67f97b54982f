/- Boxes out of dice. No statement is proved here. -/
import Derived.Test.YtdbjebdomdnbkaaZL10E
namespace Go.Proofs.Ytdbjebdomdnbkaa
open Go.ChangeShapes Go.WideShapes Go.ChangeAt Go.RowKit
open List renaming drop → ka7, getD → ka0, getD_eq_getElem?_getD → ka8, getElem?_eq_getElem → ka9, length → ka1, length_append → ka3, length_cons → kb1, length_drop → kb2, length_map → kc3, length_nil → kb5, length_replicate → kb6, length_reverse → kc7, length_set → kc2, length_take → kb3, take → ka2, take_of_length_le → kc4
open Nat renaming le_trans → ke9, mul_one → kc6
set_option linter.unusedVariables false
set_option linter.unusedSimpArgs false
set_option maxHeartbeats 4000000
set_option maxRecDepth 100000
theorem k7t (xs : List (List Int)) (i : Nat) (h : i < xs.length) : (kY xs)[i]? = some (D.sl (dI .i64 (ka0 xs i [])) (ka0 xs i []).length) := by
 have := cE xs i h
 rw [List.getElem?_drop, Nat.add_zero] at this; exact this
def kbV (l : List Int) : Int := IntKind.i64.wrap (1 * (((2 ^ (1 + (kB l 7))) : Nat) : Int))
def orI (a b : Int) : Int := qR .or .i64 a b
def cQ (l : List Int) : Nat → List Int
 | 0 => l
 | i + 1 => kA (cQ l i) 7
def knK (l : List Int) (k : Int) : Nat → Int
 | 0 => k
 | i + 1 => orI (knK l k i) (kbV (cQ l i))
theorem vT {l : List Int} (h : Byt l) : ∀ i, Byt (cQ l i)
 | 0 => h
 | i + 1 => kE _ (vT h i)
def thE (x m : List Int) : Bool := decide (ka1 x = ka1 m ∧ ka0 x 0 0 = ka0 m 0 0)
def mT (ms : List (List Int)) (m : List Int) : Bool := ms.any fun x => thE x m
theorem u78 (ms : List (List Int)) (m : List Int) : mT (ka2 0 ms) m = false := rfl
theorem pI {ms : List (List Int)} {m : List Int} {j : Nat} (h : j < ms.length) : mT (ka2 (j + 1) ms) m = (mT (ka2 j ms) m || thE (ka0 ms j []) m) := by
 unfold mT
 rw [ka8, ka9 h, List.take_succ_eq_append_getElem h, List.any_append]
 simp
theorem k78 {ms : List (List Int)} {m : List Int} {j : Nat} (h : j < ms.length) (h1 : mT (ka2 j ms) m = true) : mT (ka2 (j + 1) ms) m = true := by
 rw [pI h, h1]; rfl
theorem k7a {ms : List (List Int)} {m : List Int} {j : Nat} (h : j < ms.length) (h1 : ka1 (ka0 ms j []) = ka1 m ∧ ka0 (ka0 ms j []) 0 0 = ka0 m 0 0) : mT (ka2 (j + 1) ms) m = true := by
 rw [pI h, show thE (ka0 ms j []) m = true from decide_eq_true h1, Bool.or_true]
theorem k79 {ms : List (List Int)} {m : List Int} {j : Nat} (h : j < ms.length) (h0 : mT (ka2 j ms) m = false) (h1 : ¬ (ka1 (ka0 ms j []) = ka1 m ∧ ka0 (ka0 ms j []) 0 0 = ka0 m 0 0)) : mT (ka2 (j + 1) ms) m = false := by
 rw [pI h, h0, show thE (ka0 ms j []) m = false from decide_eq_false h1]; rfl
def mX (l : List Int) : Nat → List Int
 | 0 => l
 | i + 1 => kA (mX l i) 7
def mW (l : List Int) : Nat → List (List Int)
 | 0 => []
 | i + 1 => if mT (mW l i) (uT (mX l i)) = true then mW l i else mW l i ++ [uT (mX l i)]
theorem gJ {l : List Int} (h : Byt l) : ∀ i, Byt (mX l i)
 | 0 => h
 | i + 1 => kE _ (gJ h i)
theorem u5j {l : List Int} {i : Nat} {ms : List (List Int)} (h : mW l i = ms) (h1 : mT ms (uT (mX l i)) = true) : mW l (i + 1) = ms := by
 subst h; exact if_pos h1
theorem u5m {l : List Int} {i : Nat} {ms : List (List Int)} (h : mW l i = ms) (h1 : mT ms (uT (mX l i)) = false) : mW l (i + 1) = ms ++ [uT (mX l i)] := by
 subst h; exact if_neg (by rw [h1]; decide)
theorem u7q {l : List Int} {k : Int} {i : Nat} {y x : Int} (h : knK l k i = y) (hx : x = orI y (kbV (cQ l i))) : knK l k (i + 1) = x := by
 subst h; rw [hx]; rfl
theorem pJ {ms : List (List Int)} {m : List Int} {j c : Nat} {f : Bool} (hc : ms.length = c) (hj : c ≤ j) (h : mT (ka2 j ms) m = f) : mT ms m = f := by
 rw [kc4 (by omega)] at h; exact h
theorem k3x (l : List Int) : ∀ i, MsW (mW l i)
 | 0 => MsW.nil
 | i + 1 => by
  rw [mW]; split
  ·exact k3x l i
  ·exact (k3x l i).snoc (ke9 (rE _) (by omega))
theorem xM (l : List Int) : ∀ i, ka1 (mW l i) ≤ i
 | 0 => Nat.le_refl _
 | i + 1 => by
  have := xM l i
  rw [mW]; split
  ·omega
  ·rw [ka3, List.length_singleton]; omega
def bo1 (l : List Int) : List Int := kA (kA l 7) 3
def bo2 (l : List Int) : List Int := cQ (bo1 l) (kB (kA l 7) 3)
def rtT : List Int := [44100, 44100, 48000, 48000, 8000, 8000, 32000, 50000, 96000, 192000]
def szT : List Int := [16, 64, 64, 1024, 2048, 2048, 1, 65536]
def bo3 (l : List Int) : List Int := yI rtT (bo2 l) 5
def bo4 (l : List Int) : List Int := yI szT (bo3 l) 4
def bo5 (l : List Int) : List Int := kA (bo4 l) 3
def boN (l : List Int) : Nat := 1 + kB (bo4 l) 3
def sE (l : List Int) : List Int := mX (bo5 l) (boN l)
def jD (l : List Int) : Int := knK (bo1 l) (kbV l) (kB (kA l 7) 3)
def jC (l : List Int) : List Int := dR (v4 rtT (bo2 l) 5) (vW rtT (bo2 l) 5)
def iZ (l : List Int) : Nat := vC (v4 rtT (bo2 l) 5) (vW rtT (bo2 l) 5)
def jB (l : List Int) : List Int := dR (v4 szT (bo3 l) 4) (vW szT (bo3 l) 4)
def iY (l : List Int) : Nat := vC (v4 szT (bo3 l) 4) (vW szT (bo3 l) 4)
def dV (l : List Int) : List (List Int) := mW (bo5 l) (boN l)
def MsN (xs : List (List Int)) : Prop := ∀ l ∈ xs, 1 ≤ ka1 l
theorem MsN.nil : MsN [] := fun l h => by cases h
theorem MsN.snoc {xs : List (List Int)} {l : List Int} (h : MsN xs) (hl : 1 ≤ ka1 l) : MsN (xs ++ [l]) := fun m hm => (List.mem_append.1 hm).elim (h m) fun hm => by
 rw [List.mem_singleton.1 hm]; exact hl
theorem MsN.at {xs : List (List Int)} (h : MsN xs) {i : Nat} (hi : i < xs.length) : 1 ≤ ka1 (ka0 xs i []) := by
 rw [ka8, ka9 hi]; exact h _ (List.getElem_mem hi)
attribute [local irreducible] v4 yI vW dR vC kB kA uT mT
abbrev qO := ([44100, 44100, 48000, 48000, 8000, 8000, 32000, 50000, 96000, 192000] : List Int)
abbrev qN (l : List Int) := cQ (kA (kA l 7) 3) (kB (kA l 7) 3)
abbrev kK (l : List Int) := yI qO (qN l) 5
abbrev kM := ([16, 64, 64, 1024, 2048, 2048, 1, 65536] : List Int)
abbrev u4 (l : List Int) := kA (yI kM (kK l) 4) 3
abbrev kL (l : List Int) (i2 : Nat) := mX (u4 l) i2
abbrev y9 (l : List Int) := dR (v4 qO (qN l) 5) (vW qO (qN l) 5)
abbrev vF (l : List Int) := dR (v4 kM (kK l) 4) (vW kM (kK l) 4)
theorem bZ {p : Prop} (h : p := by first | omega | assumption | simp) : p := h
theorem cX {p : Prop} (h : p := by first | rfl | omega | assumption | (simp; done) | (simp; omega)) : p := h
theorem fQ {p : Prop} (h : p := by first | omega | (show _ < _; simp; omega)) : p := h
theorem cY {p : Prop} (h : p := by first | omega | (simp only [kU, kT, qM, ka3, kb1, kb5, kb3, kb2, kb6, kc2, kc3, kc7, kc6] <;> omega) | rfl) : p := h
theorem j6 {p : Prop} (h : p := by first | rfl | assumption | simp) : p := h
abbrev vP (y : Int) (l : List Int) (q : Nat) : BC := .cs [iC y, .d (D.sl (dI .i64 (y9 l)) (vC (v4 qO (qN l) 5) (vW qO (qN l) 5))), .own 6 0 q 1 true, .d (D.sl (dI .i64 (vF l)) (vC (v4 kM (kK l) 4) (vW kM (kK l) 4)))]
abbrev uI : BC := .ds [iD 0, D.lit (.slice none 0 0), D.lit (.slice none 0 0), D.lit (.slice none 0 0)]
abbrev vJ (l : List Int) (i2 : Nat) : BC := .ds [D.sl (dI .u8 (kA (kL l i2) 7)) (ka1 (kA (kL l i2) 7))]
abbrev jM (l : List Int) (i : Nat) : BC := .ds [D.sl (dI .u8 (cQ (kA (kA l 7) 3) i)) (ka1 (cQ (kA (kA l 7) 3) i))]
abbrev jL (y : Int) : BC := .ds [iD y, D.lit (.slice none 0 0), D.lit (.slice none 0 0), D.lit (.slice none 0 0)]
theorem u0z (l : List Int) (hb : Byt l) : Fun 58 [.c (.ptr 0 0)] (kF [(0, some (77, .ds [D.sl (dI .u8 l) (ka1 l)]))]) 1 (.e (.agg [iC (jD l), .d (D.sl (dI .i64 (jC l)) (iZ l)), .d (D.sl (kY (dV l)) (ka1 (dV l))), .d (D.sl (dI .i64 (jB l)) (iY l))])) (kF [(0, some (77, .ds [D.sl (dI .u8 (sE l)) (ka1 (sE l))]))]) 1 := by
 refine Fun.mk (n := 89) Try.func58 rfl rfl (Nat.le_of_ble_eq_true rfl) ?_
 intro cx hcx
 refine kI [.no] True [(0, rV 0 0), (2, rV 1 0)] [(0, some (77, .ds [db l (ka1 l)])), (1, some (47, uI))] 2 trivial ?_
 have hx1 : ((((((kB l 7) : Nat) : Int) < 7) ∨ ((kB l 7) = 0)) ∧ ((kB l 7) ≤ 255)) := kO l (7 : Int) (kQ : Byt l)
 have hx2 : (Byt (kA l 7)) := kE (7 : Int) (kQ : Byt l)
 refine kI [.no, .call [0] (uV (kB l 7)) [(0, some (77, .ds [db (kA l 7) (ka1 (kA l 7))]))] 1 [] none, .w, .n2 (1 + (kB l 7)) 0, .no, .no, .no] ((_) ∧ (qJ (1 + (kB l 7 : Int))) ∧ (((1 + (kB l 7 : Int)) : Int) = (((1 + (kB l 7)) : Nat) : Int)) ∧ ((1 + (kB l 7)) ≤ 64)) [(0, rV 0 0), (2, rV 1 0), (3, rV 2 0)] [(0, some (77, .ds [db (kA l 7) (ka1 (kA l 7))])), (1, some (47, uI)), (2, some (47, .ds [iD (IntKind.i64.wrap (1 * (((2 ^ (1 + (kB l 7))) : Nat) : Int))), qF, qF, qF]))] 3 ⟨(qH l 7 (kQ : Byt l)), ⟨by omega, by omega⟩, (by first | rfl | omega), zo⟩ ?_
 refine AW.seq ?_
 have hx3 : ((((((kB (kA l 7) 3) : Nat) : Int) < 3) ∨ ((kB (kA l 7) 3) = 0)) ∧ ((kB (kA l 7) 3) ≤ 255)) := kO (kA l 7) (3 : Int) (kQ : Byt (kA l 7))
 have hx4 : (Byt (kA (kA l 7) 3)) := kE (3 : Int) (kQ : Byt (kA l 7))
 refine kI [.no, .call [0] (uV (kB (kA l 7) 3)) [(0, some (77, .ds [db (kA (kA l 7) 3) (ka1 (kA (kA l 7) 3))]))] 1 [] none, .no] _ [(0, rV 0 0), (2, rV 1 0), (3, rV 2 0), (4, uV (kB (kA l 7) 3))] [(0, some (77, .ds [db (kA (kA l 7) 3) (ka1 (kA (kA l 7) 3))])), (1, some (47, uI)), (2, some (47, .ds [iD (IntKind.i64.wrap (1 * (((2 ^ (1 + (kB l 7))) : Nat) : Int))), qF, qF, qF]))] 3 (qH (kA l 7) 3 (kQ : Byt (kA l 7))) ?_
 refine AW.block ?_
 refine kX 1 hcx (fun (x : {x : Nat × Int // match x with | (i, y) => (i ≤ kB (kA l 7) 3) ∧ (knK (kA (kA l 7) 3) (kbV l) i = y)}) => match x with | ⟨(i, y), _⟩ => (⟨[(0, rV 0 0), (2, rV 1 0), (3, rV 2 0), (4, iV ((kB (kA l 7) 3 : Int) - (i : Int)))], [(0, some (77, (jM l i))), (1, some (47, uI)), (2, some (47, (jL y)))], 3⟩ : ES)) (fun x => match x with | ⟨(i, y), _⟩ => kB (kA l 7) 3 - i) ⟨((0 : Nat), ((IntKind.i64.wrap (1 * (((2 ^ (1 + (kB l 7))) : Nat) : Int))) : Int)), ⟨bZ, rfl⟩⟩ [] (P := (kP 0) ∧ (kP 0) ∧ (kP 0) ∧ ((((kB (kA l 7) 3 : Int) - 0) : Int) = (kB (kA l 7) 3 : Int)) ∧ (([db (cQ (kA (kA l 7) 3) 0) (ka1 (cQ (kA (kA l 7) 3) 0))] : List D) = [db (kA (kA l 7) 3) (ka1 (kA (kA l 7) 3))]) ∧ (kZ [iD 0, qF, qF, qF]) ∧ (kZ [iD (IntKind.i64.wrap (1 * (((2 ^ (1 + (kB l 7))) : Nat) : Int))), qF, qF, qF])) zk ⟨rfl, rfl, rfl, cX, (by first | rfl | with_reducible assumption | (simp only [yO, uA, qT]; rfl) | (congr 1; first | assumption | (simp; done) | omega)), rfl, rfl⟩ ?_
 rintro ⟨⟨i, y⟩, hinv0⟩
 obtain ⟨hi, hy⟩ : (i ≤ kB (kA l 7) 3) ∧ (knK (kA (kA l 7) 3) (kbV l) i = y) := hinv0
 refine qU (l := [(0, rV 0 0), (2, rV 1 0), (3, rV 2 0), (4, iV ((kB (kA l 7) 3 : Int) - (i : Int)))]) (g := [(0, some (77, (jM l i))), (1, some (47, uI)), (2, some (47, (jL y)))]) (nx := 3) rfl rfl rfl ?_
 refine AW.seq ?_
 by_cases hx5 : ((0 : Int) < ((((kB (kA l 7) 3) : Nat) : Int) - ((i : Nat) : Int)))
 ·refine kI [.no, .b true] (((0 : Int) < ((kB (kA l 7) 3 : Int) - (i : Int)))) [(0, rV 0 0), (2, rV 1 0), (3, rV 2 0), (4, iV ((kB (kA l 7) 3 : Int) - ↑i)), (18, bV true)] [(0, some (77, (jM l i))), (1, some (47, uI)), (2, some (47, (jL y)))] 3 zo ?_
  refine vD ?_
  refine AW.seq ?_
  refine AW.block ?_
  have hx6 : ((((((kB (cQ (kA (kA l 7) 3) i) 7) : Nat) : Int) < 7) ∨ ((kB (cQ (kA (kA l 7) 3) i) 7) = 0)) ∧ ((kB (cQ (kA (kA l 7) 3) i) 7) ≤ 255)) := kO (cQ (kA (kA l 7) 3) i) (7 : Int) ((vT (kQ : Byt (kA (kA l 7) 3)) _))
  have hx7 : (Byt (kA (cQ (kA (kA l 7) 3) i) 7)) := kE (7 : Int) ((vT (kQ : Byt (kA (kA l 7) 3)) _))
  refine v7 [.no, .no, .no, .call [0] (iV (kB (cQ (kA (kA l 7) 3) i) 7 : Int)) [(0, some (77, .ds [db (kA (cQ (kA (kA l 7) 3) i) 7) (ka1 (kA (cQ (kA (kA l 7) 3) i) 7))]))] 1 [] none, .w, .n2 (1 + (kB (cQ (kA (kA l 7) 3) i) 7)) 0, .i (orI y (IntKind.i64.wrap (1 * (((2 ^ (1 + (kB (cQ (kA (kA l 7) 3) i) 7))) : Nat) : Int)))), .no, .no] ((_) ∧ ((-9223372036854775808) ≤ (1 + (kB (cQ (kA (kA l 7) 3) i) 7 : Int)) ∧ (1 + (kB (cQ (kA (kA l 7) 3) i) 7 : Int)) ≤ 9223372036854775807) ∧ (((1 + (kB (cQ (kA (kA l 7) 3) i) 7 : Int)) : Int) = (((1 + (kB (cQ (kA (kA l 7) 3) i) 7)) : Nat) : Int)) ∧ ((1 + (kB (cQ (kA (kA l 7) 3) i) 7)) ≤ 64) ∧ (qR .or .i64 y (IntKind.i64.wrap (1 * (((2 ^ (1 + (kB (cQ (kA (kA l 7) 3) i) 7))) : Nat) : Int))) = (orI y (IntKind.i64.wrap (1 * (((2 ^ (1 + (kB (cQ (kA (kA l 7) 3) i) 7))) : Nat) : Int)))))) [(0, rV 0 0), (2, rV 1 0), (3, rV 2 0), (4, iV ((kB (kA l 7) 3 : Int) - ↑i))] [(0, some (77, .ds [db (kA (cQ (kA (kA l 7) 3) i) 7) (ka1 (kA (cQ (kA (kA l 7) 3) i) 7))])), (1, some (47, uI)), (2, some (47, .ds [iD (orI y (IntKind.i64.wrap (1 * (((2 ^ (1 + (kB (cQ (kA (kA l 7) 3) i) 7))) : Nat) : Int)))), qF, qF, qF]))] 3 ⟨(qH (cQ (kA (kA l 7) 3) i) 7 (vT (kQ : Byt (kA (kA l 7) 3)) _)), ⟨by omega, by omega⟩, (by first | rfl | omega), zo, rfl⟩ ?_
  refine yD [.no, .w, .no] (qJ (((kB (kA l 7) 3 : Int) - (i : Int)) - 1)) [(0, rV 0 0), (2, rV 1 0), (3, rV 2 0), (4, iV (((kB (kA l 7) 3 : Int) - ↑i) - 1))] ⟨by omega, by omega⟩ ?_
  exact qE ⟨(((i + 1) : Nat), ((orI y (IntKind.i64.wrap (1 * (((2 ^ (1 + (kB (cQ (kA (kA l 7) 3) i) 7))) : Nat) : Int)))) : Int)), ⟨bZ, (u7q hy rfl)⟩⟩ [] (P := (kP 0) ∧ (kP 0) ∧ (kP 0) ∧ ((((kB (kA l 7) 3 : Int) - (((i + 1) : Nat) : Int)) : Int) = (((kB (kA l 7) 3 : Int) - (i : Int)) - 1)) ∧ (([db (cQ (kA (kA l 7) 3) (i + 1)) (ka1 (cQ (kA (kA l 7) 3) (i + 1)))] : List D) = [db (kA (cQ (kA (kA l 7) 3) i) 7) (ka1 (kA (cQ (kA (kA l 7) 3) i) 7))]) ∧ (kZ [iD 0, qF, qF, qF]) ∧ (kZ [iD (orI y (IntKind.i64.wrap (1 * (((2 ^ (1 + (kB (cQ (kA (kA l 7) 3) i) 7))) : Nat) : Int)))), qF, qF, qF])) zk ⟨rfl, rfl, rfl, cX, (by first | rfl | with_reducible assumption | (simp only [yO, uA, qT]; rfl) | (congr 1; first | assumption | (simp; done) | omega)), rfl, rfl⟩ (show kB (kA l 7) 3 - (i + 1) < kB (kA l 7) 3 - i from fQ)
 ·refine kI [.no, .b false] (¬ ((0 : Int) < ((kB (kA l 7) 3 : Int) - (i : Int)))) [(0, rV 0 0), (2, rV 1 0), (3, rV 2 0), (4, iV ((kB (kA l 7) 3 : Int) - ↑i)), (18, bV false)] [(0, some (77, (jM l i))), (1, some (47, uI)), (2, some (47, (jL y)))] 3 zo ?_
  refine zf ?_
  refine AW.exit ?_
  obtain rfl : i = (kB (kA l 7) 3) := (by omega)
  refine kI (kJ 6 [(.fz (.no)), .call [0] (.e (.agg [.d (dl (y9 l) (vC (v4 qO (qN l) 5) (vW qO (qN l) 5)))])) [(0, some (77, .ds [db (kK l) (ka1 (kK l))]))] 1 [] none, .no, .no]) ((([iD 44100, iD 44100, iD 48000, iD 48000, iD 8000, iD 8000, iD 32000, iD 50000, iD 96000, iD 192000] : List D).length = 5 * 2) ∧ (_)) [(0, rV 0 0), (2, rV 1 0), (3, rV 2 0)] [(0, some (77, .ds [db (kK l) (ka1 (kK l))])), (1, some (47, uI)), (2, some (47, .ds [iD y, dl (y9 l) (vC (v4 qO (qN l) 5) (vW qO (qN l) 5)), qF, qF]))] 4 ⟨cY, (u10 qO 5 (qN l) (by first | omega | with_reducible assumption | (simp only [kU, kT, ka3, kb1, kb5, kb3, kb2, kb6, kc2] <;> omega) | rfl | assumption) zo zo (vT (kQ : Byt (kA (kA l 7) 3)) _))⟩ ?_
  refine kI (kJ 5 [(.fz (.no)), .call [0] (.e (.agg [.d (dl (vF l) (vC (v4 kM (kK l) 4) (vW kM (kK l) 4)))])) [(0, some (77, .ds [db (yI kM (kK l) 4) (ka1 (yI kM (kK l) 4))]))] 1 [] none, .no, .no]) ((([iD 16, iD 64, iD 64, iD 1024, iD 2048, iD 2048, iD 1, iD 65536] : List D).length = 4 * 2) ∧ (_)) [(0, rV 0 0), (2, rV 1 0), (3, rV 2 0)] [(0, some (77, .ds [db (yI kM (kK l) 4) (ka1 (yI kM (kK l) 4))])), (1, some (47, uI)), (2, some (47, .ds [iD y, dl (y9 l) (vC (v4 qO (qN l) 5) (vW qO (qN l) 5)), qF, dl (vF l) (vC (v4 kM (kK l) 4) (vW kM (kK l) 4))]))] 5 ⟨cY, (u10 kM 4 (kK l) (by first | omega | with_reducible assumption | (simp only [kU, kT, ka3, kb1, kb5, kb3, kb2, kb6, kc2] <;> omega) | rfl | assumption) zo zo (v9 (vT (kQ : Byt (kA (kA l 7) 3)) _)))⟩ ?_
  refine AW.seq ?_
  have hx8 : ((((((kB (yI kM (kK l) 4) 3) : Nat) : Int) < 3) ∨ ((kB (yI kM (kK l) 4) 3) = 0)) ∧ ((kB (yI kM (kK l) 4) 3) ≤ 255)) := kO (yI kM (kK l) 4) (3 : Int) ((v9 (v9 (vT (kQ : Byt (kA (kA l 7) 3)) _))))
  have hx9 : (Byt (u4 l)) := kE (3 : Int) ((v9 (v9 (vT (kQ : Byt (kA (kA l 7) 3)) _))))
  refine kI [.no, .call [0] (uV (kB (yI kM (kK l) 4) 3)) [(0, some (77, .ds [db (u4 l) (ka1 (u4 l))]))] 1 [] none, .w, .no] ((_) ∧ (qJ (1 + (kB (yI kM (kK l) 4) 3 : Int)))) [(0, rV 0 0), (2, rV 1 0), (3, rV 2 0), (5, iV (1 + (kB (yI kM (kK l) 4) 3 : Int)))] [(0, some (77, .ds [db (u4 l) (ka1 (u4 l))])), (1, some (47, uI)), (2, some (47, .ds [iD y, dl (y9 l) (vC (v4 qO (qN l) 5) (vW qO (qN l) 5)), qF, dl (vF l) (vC (v4 kM (kK l) 4) (vW kM (kK l) 4))]))] 5 ⟨(qH (yI kM (kK l) 4) 3 (v9 (v9 (vT (kQ : Byt (kA (kA l 7) 3)) _)))), ⟨by omega, by omega⟩⟩ ?_
  refine AW.block ?_
  refine oR 2 2 1 49 (cs' := [iC y, .d (dl (y9 l) (vC (v4 qO (qN l) 5) (vW qO (qN l) 5))), .own 5 0 0 1 true, .d (dl (vF l) (vC (v4 kM (kK l) 4) (vW kM (kK l) 4)))]) rfl rfl rfl ?_
  refine kX 1 hcx (fun (x : {x : Nat × Nat × List (List Int) // match x with | (i2, q, ms) => (i2 ≤ 1 + kB (yI kM (kK l) 4) 3) ∧ (mW (u4 l) i2 = ms) ∧ (ka1 ms = q ∧ q ≤ i2) ∧ (MsN ms) ∧ (MsW ms)}) => match x with | ⟨(i2, q, ms), _⟩ => (⟨[(0, rV 0 0), (2, rV 1 0), (3, rV 2 0), (5, iV ((((1 + (kB (yI kM (kK l) 4) 3)) : Nat) : Int) - (i2 : Int)))], [(0, some (77, .ds [db (kL l i2) (ka1 (kL l i2))])), (1, some (47, uI)), (2, some (47, (vP y l q))), (6, some (49, .ds (kY ms)))], 7⟩ : ES)) (fun x => match x with | ⟨(i2, q, ms), _⟩ => 1 + kB (yI kM (kK l) 4) 3 - i2) ⟨((0 : Nat), (0 : Nat), (([] : List (List Int)) : List (List Int))), ⟨bZ, rfl, ⟨rfl, by omega⟩, MsN.nil, MsW.nil⟩⟩ [(6, 5)] (P := (kP 0) ∧ (kP 0) ∧ (kP 0) ∧ ((((((1 + (kB (yI kM (kK l) 4) 3)) : Nat) : Int) - 0) : Int) = (1 + (kB (yI kM (kK l) 4) 3 : Int))) ∧ (([db (mX (u4 l) 0) (ka1 (mX (u4 l) 0))] : List D) = [db (u4 l) (ka1 (u4 l))]) ∧ (kZ [iD 0, qF, qF, qF]) ∧ (kN y) ∧ (kZ (dI .i64 (y9 l))) ∧ (kP (vC (v4 qO (qN l) 5) (vW qO (qN l) 5))) ∧ (kP 0) ∧ (kP 0) ∧ (kZ (dI .i64 (vF l))) ∧ (kP (vC (v4 kM (kK l) 4) (vW kM (kK l) 4))) ∧ (((kY ([] : List (List Int))) : List D) = ([] : List D))) zk ⟨rfl, rfl, rfl, cX, (by first | rfl | with_reducible assumption), rfl, rfl, rfl, rfl, rfl, rfl, rfl, rfl, (by first | rfl | with_reducible assumption)⟩ ?_
  rintro ⟨⟨i2, q, ms⟩, hinv1⟩
  obtain ⟨hi2, hm, hq, hN, hW⟩ : (i2 ≤ 1 + kB (yI kM (kK l) 4) 3) ∧ (mW (u4 l) i2 = ms) ∧ (ka1 ms = q ∧ q ≤ i2) ∧ (MsN ms) ∧ (MsW ms) := hinv1
  refine qU (l := [(0, rV 0 0), (2, rV 1 0), (3, rV 2 0), (5, iV ((((1 + (kB (yI kM (kK l) 4) 3)) : Nat) : Int) - (i2 : Int)))]) (g := [(0, some (77, .ds [db (kL l i2) (ka1 (kL l i2))])), (1, some (47, uI)), (2, some (47, (vP y l q))), (6, some (49, .ds (kY ms)))]) (nx := 7) rfl rfl rfl ?_
  refine AW.seq ?_
  by_cases hx10 : ((0 : Int) < ((((1 + (kB (yI kM (kK l) 4) 3)) : Nat) : Int) - ((i2 : Nat) : Int)))
  ·refine kI [.no, .b true] (((0 : Int) < ((((1 + (kB (yI kM (kK l) 4) 3)) : Nat) : Int) - (i2 : Int)))) [(0, rV 0 0), (2, rV 1 0), (3, rV 2 0), (5, iV ((((1 + (kB (yI kM (kK l) 4) 3)) : Nat) : Int) - ↑i2)), (50, bV true)] [(0, some (77, .ds [db (kL l i2) (ka1 (kL l i2))])), (1, some (47, uI)), (2, some (47, (vP y l q))), (6, some (49, .ds (kY ms)))] 7 zo ?_
   refine vD ?_
   refine AW.seq ?_
   refine AW.block ?_
   have hx11 : (((1 : Nat) ≤ (ka1 (uT (kL l i2)))) ∧ ((ka1 (uT (kL l i2))) ≤ 6)) := (k7w ((gJ (kQ : Byt (u4 l)) _)))
   refine kI [.no, .call [0] (sV .i64 (uT (kL l i2)) (ka1 (uT (kL l i2)))) [(0, some (77, (vJ l i2)))] 1 [] none, .no] _ [(0, rV 0 0), (2, rV 1 0), (3, rV 2 0), (5, iV ((((1 + (kB (yI kM (kK l) 4) 3)) : Nat) : Int) - ↑i2)), (6, sV .i64 (uT (kL l i2)) (ka1 (uT (kL l i2))))] [(0, some (77, (vJ l i2))), (1, some (47, uI)), (2, some (47, (vP y l q))), (6, some (49, .ds (kY ms)))] 7 (u6u (kL l i2) (gJ (kQ : Byt (u4 l)) _)) ?_
   refine k8 [.no] True [(0, rV 0 0), (2, rV 1 0), (3, rV 2 0), (5, iV ((((1 + (kB (yI kM (kK l) 4) 3)) : Nat) : Int) - ↑i2)), (6, sV .i64 (uT (kL l i2)) (ka1 (uT (kL l i2)))), (7, bV false)] trivial ?_
   refine AW.seq ?_
   refine k8 (kJ 4 []) True [(0, rV 0 0), (2, rV 1 0), (3, rV 2 0), (5, iV ((((1 + (kB (yI kM (kK l) 4) 3)) : Nat) : Int) - ↑i2)), (6, sV .i64 (uT (kL l i2)) (ka1 (uT (kL l i2)))), (7, bV false), (56, oV 6 0 q 1), (57, uV q), (58, iV 0)] trivial ?_
   refine AW.block ?_
   refine kX 1 hcx (fun (x : {x : Nat × Bool // match x with | (j, f) => (j ≤ q) ∧ (mT (ka2 j ms) (uT (kL l i2)) = f)}) => match x with | ⟨(j, f), _⟩ => (⟨[(0, rV 0 0), (2, rV 1 0), (3, rV 2 0), (5, iV ((((1 + (kB (yI kM (kK l) 4) 3)) : Nat) : Int) - (i2 : Int))), (6, sV .i64 (uT (kL l i2)) (ka1 (uT (kL l i2)))), (7, kS (D.lit (.bool (f)))), (56, oV 6 0 q 1), (57, uV q), (58, uV j)], [(0, some (77, (vJ l i2))), (1, some (47, uI)), (2, some (47, (vP y l q))), (6, some (49, .ds (kY ms)))], 7⟩ : ES)) (fun x => match x with | ⟨(j, f), _⟩ => q - j) ⟨((0 : Nat), (false : Bool)), ⟨bZ, (u78 _ _)⟩⟩ [] (P := (kP 0) ∧ (kP 0) ∧ (kP 0) ∧ (kN ((((1 + (kB (yI kM (kK l) 4) 3)) : Nat) : Int) - (i2 : Int))) ∧ (kZ (dI .i64 (uT (kL l i2)))) ∧ (kP (ka1 (uT (kL l i2)))) ∧ ((false) = false) ∧ (kP 0) ∧ (kP q) ∧ (kN (q : Int)) ∧ (kN 0) ∧ (kZ [db (kA (kL l i2) 7) (ka1 (kA (kL l i2) 7))]) ∧ (kZ [iD 0, qF, qF, qF]) ∧ (kN y) ∧ (kZ (dI .i64 (y9 l))) ∧ (kP (vC (v4 qO (qN l) 5) (vW qO (qN l) 5))) ∧ (kP 0) ∧ (kP q) ∧ (kZ (dI .i64 (vF l))) ∧ (kP (vC (v4 kM (kK l) 4) (vW kM (kK l) 4))) ∧ (kZ (kY ms))) zk ⟨rfl, rfl, rfl, rfl, rfl, rfl, j6, rfl, rfl, rfl, rfl, rfl, rfl, rfl, rfl, rfl, rfl, rfl, rfl, rfl, rfl⟩ ?_
   rintro ⟨⟨j, f⟩, hinv2⟩
   obtain ⟨hj, hf⟩ : (j ≤ q) ∧ (mT (ka2 j ms) (uT (kL l i2)) = f) := hinv2
   refine qU (l := [(0, rV 0 0), (2, rV 1 0), (3, rV 2 0), (5, iV ((((1 + (kB (yI kM (kK l) 4) 3)) : Nat) : Int) - (i2 : Int))), (6, sV .i64 (uT (kL l i2)) (ka1 (uT (kL l i2)))), (7, kS (D.lit (.bool (f)))), (56, oV 6 0 q 1), (57, uV q), (58, uV j)]) (g := [(0, some (77, (vJ l i2))), (1, some (47, uI)), (2, some (47, (vP y l q))), (6, some (49, .ds (kY ms)))]) (nx := 7) rfl rfl rfl ?_
   by_cases hx12 : (((j : Nat) : Int) < ((q : Nat) : Int))
   ·refine kI [.b true] (((j : Int) < (q : Int))) [(0, rV 0 0), (2, rV 1 0), (3, rV 2 0), (5, iV ((((1 + (kB (yI kM (kK l) 4) 3)) : Nat) : Int) - ↑i2)), (6, sV .i64 (uT (kL l i2)) (ka1 (uT (kL l i2)))), (7, kS (D.lit (.bool (f)))), (56, oV 6 0 q 1), (57, uV q), (58, uV j), (59, bV true)] [(0, some (77, (vJ l i2))), (1, some (47, uI)), (2, some (47, (vP y l q))), (6, some (49, .ds (kY ms)))] 7 zo ?_
    refine AW.seq ?_
    refine vD ?_
    refine AW.seq ?_
    refine AW.block ?_
    have hx13 : ((ka1 (ka0 ms j ([] : List Int))) ≤ 1000000) := MsW.at (kQ : MsW ms) _
    refine k8 [.n2 j j, .d (dl (ka0 ms j ([] : List Int)) (ka1 (ka0 ms j ([] : List Int)))), .no] ((kN (j : Int)) ∧ (j < q) ∧ ((0 : Nat) + j * 1 = j) ∧ ((kY ms)[j]? = some (dl (ka0 ms j ([] : List Int)) (ka1 (ka0 ms j ([] : List Int)))))) [(0, rV 0 0), (2, rV 1 0), (3, rV 2 0), (5, iV ((((1 + (kB (yI kM (kK l) 4) 3)) : Nat) : Int) - ↑i2)), (6, sV .i64 (uT (kL l i2)) (ka1 (uT (kL l i2)))), (7, kS (D.lit (.bool (f)))), (9, sV .i64 (ka0 ms j ([] : List Int)) (ka1 (ka0 ms j ([] : List Int)))), (56, oV 6 0 q 1), (57, uV q), (58, uV j)] ⟨rfl, zo, zo, (k7t _ _ (by first | omega | (simp only [kU, kT, ka3, kb1, kb5, kb3, kb2] <;> omega)))⟩ ?_
    rcases Bool.eq_false_or_eq_true (f) with hx15 | hx15
    ·subst hx15
     have hx16 : 1 ≤ ka1 (ka0 ms j ([] : List Int)) := hN.at zo
     refine v7 (kJ 4 []) True [(0, rV 0 0), (2, rV 1 0), (3, rV 2 0), (5, iV ((((1 + (kB (yI kM (kK l) 4) 3)) : Nat) : Int) - ↑i2)), (6, sV .i64 (uT (kL l i2)) (ka1 (uT (kL l i2)))), (7, bV true), (56, oV 6 0 q 1), (57, uV q), (58, uV j)] [(0, some (77, (vJ l i2))), (1, some (47, uI)), (2, some (47, (vP y l q))), (6, some (49, .ds (kY ms)))] 7 trivial ?_
     refine yD [.w, .no] (qJ ((j : Int) + 1)) [(0, rV 0 0), (2, rV 1 0), (3, rV 2 0), (5, iV ((((1 + (kB (yI kM (kK l) 4) 3)) : Nat) : Int) - ↑i2)), (6, sV .i64 (uT (kL l i2)) (ka1 (uT (kL l i2)))), (7, bV true), (56, oV 6 0 q 1), (57, uV q), (58, iV (↑j + 1))] ⟨by omega, by omega⟩ ?_
     exact qE ⟨(((j + 1) : Nat), (true : Bool)), ⟨bZ, (by first | exact k78 zo hf | exact k7a zo zo | exact k79 zo hf zo)⟩⟩ [] (P := (kP 0) ∧ (kP 0) ∧ (kP 0) ∧ (kN ((((1 + (kB (yI kM (kK l) 4) 3)) : Nat) : Int) - (i2 : Int))) ∧ (kZ (dI .i64 (uT (kL l i2)))) ∧ (kP (ka1 (uT (kL l i2)))) ∧ ((true) = true) ∧ (kP 0) ∧ (kP q) ∧ (kN (q : Int)) ∧ (((((j + 1) : Nat) : Int) : Int) = ((j : Int) + 1)) ∧ (kZ [db (kA (kL l i2) 7) (ka1 (kA (kL l i2) 7))]) ∧ (kZ [iD 0, qF, qF, qF]) ∧ (kN y) ∧ (kZ (dI .i64 (y9 l))) ∧ (kP (vC (v4 qO (qN l) 5) (vW qO (qN l) 5))) ∧ (kP 0) ∧ (kP q) ∧ (kZ (dI .i64 (vF l))) ∧ (kP (vC (v4 kM (kK l) 4) (vW kM (kK l) 4))) ∧ (kZ (kY ms))) zk ⟨rfl, rfl, rfl, rfl, rfl, rfl, j6, rfl, rfl, rfl, cX, rfl, rfl, rfl, rfl, rfl, rfl, rfl, rfl, rfl, rfl⟩ (show q - (j + 1) < q - j from fQ)
    ·subst hx15
     by_cases hx18 : ((((ka1 (ka0 ms j ([] : List Int))) : Nat) : Int) = (((ka1 (uT (kL l i2))) : Nat) : Int))
     ·by_cases hx20 : ((ka0 (ka0 ms j ([] : List Int)) 0 0) = (ka0 (uT (kL l i2)) 0 0))
      ·have hx21 : 1 ≤ ka1 (ka0 ms j ([] : List Int)) := hN.at zo
       refine v7 (kJ 6 [.b true, .no, .no, .n 0, .d (D.lit (.int .i64 (ka0 (ka0 ms j ([] : List Int)) 0 0))), .no, .n 0, .d (D.lit (.int .i64 (ka0 (uT (kL l i2)) 0 0))), .b true, .no, .no, .no]) ((((((ka1 (ka0 ms j ([] : List Int))) : Nat) : Int) = (ka1 (uT (kL l i2)) : Int))) ∧ (kN 0) ∧ ((0 : Nat) < (ka1 (ka0 ms j ([] : List Int)))) ∧ ((ka7 0 (dI .i64 (ka0 ms j ([] : List Int))))[0]? = some (D.lit (.int .i64 (ka0 (ka0 ms j ([] : List Int)) 0 0)))) ∧ (kN 0) ∧ ((0 : Nat) < (ka1 (uT (kL l i2)))) ∧ ((ka7 0 (dI .i64 (uT (kL l i2))))[0]? = some (D.lit (.int .i64 (ka0 (uT (kL l i2)) 0 0)))) ∧ (((ka0 (ka0 ms j ([] : List Int)) 0 0) = (ka0 (uT (kL l i2)) 0 0)))) [(0, rV 0 0), (2, rV 1 0), (3, rV 2 0), (5, iV ((((1 + (kB (yI kM (kK l) 4) 3)) : Nat) : Int) - ↑i2)), (6, sV .i64 (uT (kL l i2)) (ka1 (uT (kL l i2)))), (7, bV true), (56, oV 6 0 q 1), (57, uV q), (58, uV j)] [(0, some (77, (vJ l i2))), (1, some (47, uI)), (2, some (47, (vP y l q))), (6, some (49, .ds (kY ms)))] 7 ⟨zo, rfl, zo, (qW _ _ _ cY), rfl, zo, (qW _ _ _ cY), zo⟩ ?_
       refine yD [.w, .no] (qJ ((j : Int) + 1)) [(0, rV 0 0), (2, rV 1 0), (3, rV 2 0), (5, iV ((((1 + (kB (yI kM (kK l) 4) 3)) : Nat) : Int) - ↑i2)), (6, sV .i64 (uT (kL l i2)) (ka1 (uT (kL l i2)))), (7, bV true), (56, oV 6 0 q 1), (57, uV q), (58, iV (↑j + 1))] ⟨by omega, by omega⟩ ?_
       exact qE ⟨(((j + 1) : Nat), (true : Bool)), ⟨bZ, (by first | exact k78 zo hf | exact k7a zo zo | exact k79 zo hf zo)⟩⟩ [] (P := (kP 0) ∧ (kP 0) ∧ (kP 0) ∧ (kN ((((1 + (kB (yI kM (kK l) 4) 3)) : Nat) : Int) - (i2 : Int))) ∧ (kZ (dI .i64 (uT (kL l i2)))) ∧ (kP (ka1 (uT (kL l i2)))) ∧ ((true) = true) ∧ (kP 0) ∧ (kP q) ∧ (kN (q : Int)) ∧ (((((j + 1) : Nat) : Int) : Int) = ((j : Int) + 1)) ∧ (kZ [db (kA (kL l i2) 7) (ka1 (kA (kL l i2) 7))]) ∧ (kZ [iD 0, qF, qF, qF]) ∧ (kN y) ∧ (kZ (dI .i64 (y9 l))) ∧ (kP (vC (v4 qO (qN l) 5) (vW qO (qN l) 5))) ∧ (kP 0) ∧ (kP q) ∧ (kZ (dI .i64 (vF l))) ∧ (kP (vC (v4 kM (kK l) 4) (vW kM (kK l) 4))) ∧ (kZ (kY ms))) zk ⟨rfl, rfl, rfl, rfl, rfl, rfl, j6, rfl, rfl, rfl, cX, rfl, rfl, rfl, rfl, rfl, rfl, rfl, rfl, rfl, rfl⟩ (show q - (j + 1) < q - j from fQ)
      ·have hx22 : 1 ≤ ka1 (ka0 ms j ([] : List Int)) := hN.at zo
       refine v7 (kJ 6 [.b true, .no, .no, .n 0, .d (D.lit (.int .i64 (ka0 (ka0 ms j ([] : List Int)) 0 0))), .no, .n 0, .d (D.lit (.int .i64 (ka0 (uT (kL l i2)) 0 0))), .b false, .no, .no, .no]) ((((((ka1 (ka0 ms j ([] : List Int))) : Nat) : Int) = (ka1 (uT (kL l i2)) : Int))) ∧ (kN 0) ∧ ((0 : Nat) < (ka1 (ka0 ms j ([] : List Int)))) ∧ ((ka7 0 (dI .i64 (ka0 ms j ([] : List Int))))[0]? = some (D.lit (.int .i64 (ka0 (ka0 ms j ([] : List Int)) 0 0)))) ∧ (kN 0) ∧ ((0 : Nat) < (ka1 (uT (kL l i2)))) ∧ ((ka7 0 (dI .i64 (uT (kL l i2))))[0]? = some (D.lit (.int .i64 (ka0 (uT (kL l i2)) 0 0)))) ∧ (¬ ((ka0 (ka0 ms j ([] : List Int)) 0 0) = (ka0 (uT (kL l i2)) 0 0)))) [(0, rV 0 0), (2, rV 1 0), (3, rV 2 0), (5, iV ((((1 + (kB (yI kM (kK l) 4) 3)) : Nat) : Int) - ↑i2)), (6, sV .i64 (uT (kL l i2)) (ka1 (uT (kL l i2)))), (7, bV false), (56, oV 6 0 q 1), (57, uV q), (58, uV j)] [(0, some (77, (vJ l i2))), (1, some (47, uI)), (2, some (47, (vP y l q))), (6, some (49, .ds (kY ms)))] 7 ⟨zo, rfl, zo, (qW _ _ _ cY), rfl, zo, (qW _ _ _ cY), zo⟩ ?_
       refine yD [.w, .no] (qJ ((j : Int) + 1)) [(0, rV 0 0), (2, rV 1 0), (3, rV 2 0), (5, iV ((((1 + (kB (yI kM (kK l) 4) 3)) : Nat) : Int) - ↑i2)), (6, sV .i64 (uT (kL l i2)) (ka1 (uT (kL l i2)))), (7, bV false), (56, oV 6 0 q 1), (57, uV q), (58, iV (↑j + 1))] ⟨by omega, by omega⟩ ?_
       exact qE ⟨(((j + 1) : Nat), (false : Bool)), ⟨bZ, (by first | exact k78 zo hf | exact k7a zo zo | exact k79 zo hf zo)⟩⟩ [] (P := (kP 0) ∧ (kP 0) ∧ (kP 0) ∧ (kN ((((1 + (kB (yI kM (kK l) 4) 3)) : Nat) : Int) - (i2 : Int))) ∧ (kZ (dI .i64 (uT (kL l i2)))) ∧ (kP (ka1 (uT (kL l i2)))) ∧ ((false) = false) ∧ (kP 0) ∧ (kP q) ∧ (kN (q : Int)) ∧ (((((j + 1) : Nat) : Int) : Int) = ((j : Int) + 1)) ∧ (kZ [db (kA (kL l i2) 7) (ka1 (kA (kL l i2) 7))]) ∧ (kZ [iD 0, qF, qF, qF]) ∧ (kN y) ∧ (kZ (dI .i64 (y9 l))) ∧ (kP (vC (v4 qO (qN l) 5) (vW qO (qN l) 5))) ∧ (kP 0) ∧ (kP q) ∧ (kZ (dI .i64 (vF l))) ∧ (kP (vC (v4 kM (kK l) 4) (vW kM (kK l) 4))) ∧ (kZ (kY ms))) zk ⟨rfl, rfl, rfl, rfl, rfl, rfl, j6, rfl, rfl, rfl, cX, rfl, rfl, rfl, rfl, rfl, rfl, rfl, rfl, rfl, rfl⟩ (show q - (j + 1) < q - j from fQ)
     ·have hx23 : 1 ≤ ka1 (ka0 ms j ([] : List Int)) := hN.at zo
      refine v7 (kJ 6 (.b false :: kJ 4 [])) (¬ ((((ka1 (ka0 ms j ([] : List Int))) : Nat) : Int) = (ka1 (uT (kL l i2)) : Int))) [(0, rV 0 0), (2, rV 1 0), (3, rV 2 0), (5, iV ((((1 + (kB (yI kM (kK l) 4) 3)) : Nat) : Int) - ↑i2)), (6, sV .i64 (uT (kL l i2)) (ka1 (uT (kL l i2)))), (7, bV false), (56, oV 6 0 q 1), (57, uV q), (58, uV j)] [(0, some (77, (vJ l i2))), (1, some (47, uI)), (2, some (47, (vP y l q))), (6, some (49, .ds (kY ms)))] 7 zo ?_
      refine yD [.w, .no] (qJ ((j : Int) + 1)) [(0, rV 0 0), (2, rV 1 0), (3, rV 2 0), (5, iV ((((1 + (kB (yI kM (kK l) 4) 3)) : Nat) : Int) - ↑i2)), (6, sV .i64 (uT (kL l i2)) (ka1 (uT (kL l i2)))), (7, bV false), (56, oV 6 0 q 1), (57, uV q), (58, iV (↑j + 1))] ⟨by omega, by omega⟩ ?_
      exact qE ⟨(((j + 1) : Nat), (false : Bool)), ⟨bZ, (by first | exact k78 zo hf | exact k7a zo zo | exact k79 zo hf zo)⟩⟩ [] (P := (kP 0) ∧ (kP 0) ∧ (kP 0) ∧ (kN ((((1 + (kB (yI kM (kK l) 4) 3)) : Nat) : Int) - (i2 : Int))) ∧ (kZ (dI .i64 (uT (kL l i2)))) ∧ (kP (ka1 (uT (kL l i2)))) ∧ ((false) = false) ∧ (kP 0) ∧ (kP q) ∧ (kN (q : Int)) ∧ (((((j + 1) : Nat) : Int) : Int) = ((j : Int) + 1)) ∧ (kZ [db (kA (kL l i2) 7) (ka1 (kA (kL l i2) 7))]) ∧ (kZ [iD 0, qF, qF, qF]) ∧ (kN y) ∧ (kZ (dI .i64 (y9 l))) ∧ (kP (vC (v4 qO (qN l) 5) (vW qO (qN l) 5))) ∧ (kP 0) ∧ (kP q) ∧ (kZ (dI .i64 (vF l))) ∧ (kP (vC (v4 kM (kK l) 4) (vW kM (kK l) 4))) ∧ (kZ (kY ms))) zk ⟨rfl, rfl, rfl, rfl, rfl, rfl, j6, rfl, rfl, rfl, cX, rfl, rfl, rfl, rfl, rfl, rfl, rfl, rfl, rfl, rfl⟩ (show q - (j + 1) < q - j from fQ)
   ·refine kI [.b false] (¬ ((j : Int) < (q : Int))) [(0, rV 0 0), (2, rV 1 0), (3, rV 2 0), (5, iV ((((1 + (kB (yI kM (kK l) 4) 3)) : Nat) : Int) - ↑i2)), (6, sV .i64 (uT (kL l i2)) (ka1 (uT (kL l i2)))), (7, kS (D.lit (.bool (f)))), (56, oV 6 0 q 1), (57, uV q), (58, uV j), (59, bV false)] [(0, some (77, (vJ l i2))), (1, some (47, uI)), (2, some (47, (vP y l q))), (6, some (49, .ds (kY ms)))] 7 zo ?_
    refine AW.seq ?_
    refine zf ?_
    refine AW.exit ?_
    rcases Bool.eq_false_or_eq_true (f) with hx24 | hx24
    ·subst hx24
     refine kI [.no, .no] True [(0, rV 0 0), (2, rV 1 0), (3, rV 2 0), (5, iV ((((1 + (kB (yI kM (kK l) 4) 3)) : Nat) : Int) - ↑i2)), (6, sV .i64 (uT (kL l i2)) (ka1 (uT (kL l i2)))), (81, bV false)] [(0, some (77, (vJ l i2))), (1, some (47, uI)), (2, some (47, (vP y l q))), (6, some (49, .ds (kY ms)))] 7 trivial ?_
     refine yC ?_
     refine yD [.no, .w, .no] ((-9223372036854775808) ≤ (((((1 + (kB (yI kM (kK l) 4) 3)) : Nat) : Int) - (i2 : Int)) - 1) ∧ (((((1 + (kB (yI kM (kK l) 4) 3)) : Nat) : Int) - (i2 : Int)) - 1) ≤ 9223372036854775807) [(0, rV 0 0), (2, rV 1 0), (3, rV 2 0), (5, iV (((((1 + (kB (yI kM (kK l) 4) 3)) : Nat) : Int) - ↑i2) - 1))] ⟨by omega, by omega⟩ ?_
     exact qE ⟨(((i2 + 1) : Nat), (q : Nat), (ms : List (List Int))), ⟨bZ, (by first | exact u5j hm (pJ hq.1 zo hf) | exact u5m hm (pJ hq.1 zo hf)), (by first | omega | (simp only [kU, kT, ka3, kb1, kb5] <;> omega)), (by first | assumption | exact hN.snoc zo), (by first | assumption | exact hW.snoc (ke9 (rE _) zo))⟩⟩ [] (P := (kP 0) ∧ (kP 0) ∧ (kP 0) ∧ ((((((1 + (kB (yI kM (kK l) 4) 3)) : Nat) : Int) - (((i2 + 1) : Nat) : Int)) : Int) = (((((1 + (kB (yI kM (kK l) 4) 3)) : Nat) : Int) - (i2 : Int)) - 1)) ∧ (([db (mX (u4 l) (i2 + 1)) (ka1 (mX (u4 l) (i2 + 1)))] : List D) = [db (kA (kL l i2) 7) (ka1 (kA (kL l i2) 7))]) ∧ (kZ [iD 0, qF, qF, qF]) ∧ (kN y) ∧ (kZ (dI .i64 (y9 l))) ∧ (kP (vC (v4 qO (qN l) 5) (vW qO (qN l) 5))) ∧ (kP 0) ∧ (kP q) ∧ (kZ (dI .i64 (vF l))) ∧ (kP (vC (v4 kM (kK l) 4) (vW kM (kK l) 4))) ∧ (kZ (kY ms))) zk ⟨rfl, rfl, rfl, cX, (by first | rfl | with_reducible assumption), rfl, rfl, rfl, rfl, rfl, rfl, rfl, rfl, rfl⟩ (show 1 + kB (yI kM (kK l) 4) 3 - (i2 + 1) < 1 + kB (yI kM (kK l) 4) 3 - i2 from fQ)
    ·subst hx24
     refine kI [.no, .no] True [(0, rV 0 0), (2, rV 1 0), (3, rV 2 0), (5, iV ((((1 + (kB (yI kM (kK l) 4) 3)) : Nat) : Int) - ↑i2)), (6, sV .i64 (uT (kL l i2)) (ka1 (uT (kL l i2)))), (81, bV true)] [(0, some (77, (vJ l i2))), (1, some (47, uI)), (2, some (47, (vP y l q))), (6, some (49, .ds (kY ms)))] 7 trivial ?_
     refine zt ?_
     refine v7 (kJ 4 [.ap none (q + 1) (kY (ms ++ ([(uT (kL l i2))] : List (List Int)))), .no, .no]) (([dl (uT (kL l i2)) (ka1 (uT (kL l i2)))].length = 1 * 1) ∧ (((kY ms) : List D).length = q * 1) ∧ ((q + 1) * 24 ≤ 140737488355328) ∧ (q + 1 = (q + 1)) ∧ (((kY ms) : List D) ++ [dl (uT (kL l i2)) (ka1 (uT (kL l i2)))] = (kY (ms ++ ([(uT (kL l i2))] : List (List Int)))))) [(0, rV 0 0), (2, rV 1 0), (3, rV 2 0), (5, iV ((((1 + (kB (yI kM (kK l) 4) 3)) : Nat) : Int) - ↑i2))] [(0, some (77, (vJ l i2))), (1, some (47, uI)), (2, some (47, .cs [iC y, .d (dl (y9 l) (vC (v4 qO (qN l) 5) (vW qO (qN l) 5))), .own 8 0 (q + 1) 1 true, .d (dl (vF l) (vC (v4 kM (kK l) 4) (vW kM (kK l) 4)))])), (8, some (49, .ds (kY (ms ++ ([(uT (kL l i2))] : List (List Int))))))] 9 ⟨cY, cY, zo, zo, (k0f ms (uT (kL l i2)) (ka1 (uT (kL l i2))) (by first | rfl | omega))⟩ ?_
     refine yD [.no, .w, .no] ((-9223372036854775808) ≤ (((((1 + (kB (yI kM (kK l) 4) 3)) : Nat) : Int) - (i2 : Int)) - 1) ∧ (((((1 + (kB (yI kM (kK l) 4) 3)) : Nat) : Int) - (i2 : Int)) - 1) ≤ 9223372036854775807) [(0, rV 0 0), (2, rV 1 0), (3, rV 2 0), (5, iV (((((1 + (kB (yI kM (kK l) 4) 3)) : Nat) : Int) - ↑i2) - 1))] ⟨by omega, by omega⟩ ?_
     exact qE ⟨(((i2 + 1) : Nat), ((q + 1) : Nat), ((ms ++ ([(uT (kL l i2))] : List (List Int))) : List (List Int))), ⟨bZ, (by first | exact u5j hm (pJ hq.1 zo hf) | exact u5m hm (pJ hq.1 zo hf)), (by first | omega | (simp only [kU, kT, ka3, kb1, kb5] <;> omega)), (by first | assumption | exact hN.snoc zo), (by first | assumption | exact hW.snoc (ke9 (rE _) zo))⟩⟩ [(6, 8)] (P := (kP 0) ∧ (kP 0) ∧ (kP 0) ∧ ((((((1 + (kB (yI kM (kK l) 4) 3)) : Nat) : Int) - (((i2 + 1) : Nat) : Int)) : Int) = (((((1 + (kB (yI kM (kK l) 4) 3)) : Nat) : Int) - (i2 : Int)) - 1)) ∧ (([db (mX (u4 l) (i2 + 1)) (ka1 (mX (u4 l) (i2 + 1)))] : List D) = [db (kA (kL l i2) 7) (ka1 (kA (kL l i2) 7))]) ∧ (kZ [iD 0, qF, qF, qF]) ∧ (kN y) ∧ (kZ (dI .i64 (y9 l))) ∧ (kP (vC (v4 qO (qN l) 5) (vW qO (qN l) 5))) ∧ (kP 0) ∧ (kP (q + 1)) ∧ (kZ (dI .i64 (vF l))) ∧ (kP (vC (v4 kM (kK l) 4) (vW kM (kK l) 4))) ∧ (kZ (kY (ms ++ ([(uT (kL l i2))] : List (List Int)))))) zk ⟨rfl, rfl, rfl, cX, (by first | rfl | with_reducible assumption), rfl, rfl, rfl, rfl, rfl, rfl, rfl, rfl, rfl⟩ (show 1 + kB (yI kM (kK l) 4) 3 - (i2 + 1) < 1 + kB (yI kM (kK l) 4) 3 - i2 from fQ)
  ·refine kI [.no, .b false] (¬ ((0 : Int) < ((((1 + (kB (yI kM (kK l) 4) 3)) : Nat) : Int) - (i2 : Int)))) [(0, rV 0 0), (2, rV 1 0), (3, rV 2 0), (5, iV ((((1 + (kB (yI kM (kK l) 4) 3)) : Nat) : Int) - ↑i2)), (50, bV false)] [(0, some (77, .ds [db (kL l i2) (ka1 (kL l i2))])), (1, some (47, uI)), (2, some (47, (vP y l q))), (6, some (49, .ds (kY ms)))] 7 zo ?_
   refine zf ?_
   refine AW.exit ?_
   refine kI [.no, .no] True [(2, rV 1 0)] [(0, some (77, .ds [db (kL l i2) (ka1 (kL l i2))])), (1, some (47, (vP y l q))), (6, some (49, .ds (kY ms)))] 7 trivial ?_
   obtain rfl : i2 = (1 + (kB (yI kM (kK l) 4) 3)) := (by omega)
   refine AW.freeze 6 (l' := [(2, rV 1 0)]) (g' := [(0, some (77, .ds [db (mX (u4 l) (1 + (kB (yI kM (kK l) 4) 3))) (ka1 (mX (u4 l) (1 + (kB (yI kM (kK l) 4) 3))))])), (1, some (47, .ds [iD y, dl (y9 l) (vC (v4 qO (qN l) 5) (vW qO (qN l) 5)), D.sl (kY ms) q, dl (vF l) (vC (v4 kM (kK l) 4) (vW kM (kK l) 4))]))]) rfl (FzS.cons rfl (.same _) FzS.nil) (uP rfl rfl (FzG.to (bc := .cs [iC y, .d (dl (y9 l) (vC (v4 qO (qN l) 5) (vW qO (qN l) 5))), .own 6 0 q 1 true, .d (dl (vF l) (vC (v4 kM (kK l) 4) (vW kM (kK l) 4)))]) rfl (by rfl) (FzL.cons (.same _) (FzL.cons (.same _) (FzL.cons (@FzC.own 6 ((kY ms) : List D) 0 q 1 true ((kY ms) : List D) (by rw [List.drop_zero, kc6, kc4 (by first | omega | (simp only [kU, kT, qM, ka3, kb1, kb5, kb3, kb2, kb6, kc2, kc3, kc7, kc6] <;> omega))]) cY) (FzL.cons (.same _) FzL.nil)))) FzG.nil)) ?_
   have hz1 : jD l = y := hy
   have hz2 : dV l = ms := hm
   refine AW.ret ?_
   exact kC (.inr rfl) [] (P := (((jD l) : Int) = y) ∧ (((dI .i64 (jC l)) : List D) = (dI .i64 (y9 l))) ∧ (((iZ l) : Nat) = (vC (v4 qO (qN l) 5) (vW qO (qN l) 5))) ∧ (((kY (dV l)) : List D) = (kY ms)) ∧ (((ka1 (dV l)) : Nat) = q) ∧ (((dI .i64 (jB l)) : List D) = (dI .i64 (vF l))) ∧ (((iY l) : Nat) = (vC (v4 kM (kK l) 4) (vW kM (kK l) 4))) ∧ (([db (sE l) (ka1 (sE l))] : List D) = [db (mX (u4 l) (1 + (kB (yI kM (kK l) 4) 3))) (ka1 (mX (u4 l) (1 + (kB (yI kM (kK l) 4) 3))))])) zk ⟨(by first | rfl | exact hz1 | (rw [hz2]; omega) | omega), (by first | rfl | (rw [hz2]; done) | (rw [hz2]; rfl)), (by first | rfl | exact hz1 | (rw [hz2]; omega) | omega), (by first | rfl | (rw [hz2]; done) | (rw [hz2]; rfl)), (by first | rfl | exact hz1 | (rw [hz2]; omega) | omega), (by first | rfl | (rw [hz2]; done) | (rw [hz2]; rfl)), (by first | rfl | exact hz1 | (rw [hz2]; omega) | omega), (by first | rfl | (rw [hz2]; done) | (rw [hz2]; rfl))⟩
end Go.Proofs.Ytdbjebdomdnbkaa
