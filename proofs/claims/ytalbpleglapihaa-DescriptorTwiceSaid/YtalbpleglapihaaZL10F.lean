/- Boxes out of dice. No statement is proved here. -/
import Derived.Test.YtalbpleglapihaaZL10E
namespace Go.Proofs.Ytalbpleglapihaa
open Go.ChangeShapes Go.WideShapes Go.ChangeAt Go.RowKit
open List renaming drop → ka7, getD → ka0, getD_eq_getElem?_getD → ka8, getElem?_eq_getElem → ka9, length → ka1, length_append → ka4, length_cons → kb2, length_drop → kb1, length_map → kd0, length_nil → kb5, length_replicate → kb4, length_reverse → kc8, length_set → kc4, length_take → kb3, take → ka2, take_of_length_le → kc2
open Nat renaming le_trans → ke8, mul_one → kc3
set_option linter.unusedVariables false
set_option linter.unusedSimpArgs false
set_option maxHeartbeats 4000000
set_option maxRecDepth 100000
theorem k4o (xs : List (List Int)) (i : Nat) (h : i < xs.length) : (qA xs)[i]? = some (D.sl (dI .i64 (ka0 xs i [])) (ka0 xs i []).length) := by
 have := eY xs i h
 rw [List.getElem?_drop, Nat.add_zero] at this; exact this
def kbV (l : List Int) : Int := IntKind.i64.wrap (1 * (((2 ^ (1 + (kB l 7))) : Nat) : Int))
def zP (a b : Int) : Int := qK .or .i64 a b
def aT (l : List Int) : Nat → List Int
 | 0 => l
 | i + 1 => kA (aT l i) 7
def knK (l : List Int) (k : Int) : Nat → Int
 | 0 => k
 | i + 1 => zP (knK l k i) (kbV (aT l i))
theorem yX {l : List Int} (h : Byt l) : ∀ i, Byt (aT l i)
 | 0 => h
 | i + 1 => kF _ (yX h i)
def thE (x m : List Int) : Bool := decide (ka1 x = ka1 m ∧ ka0 x 0 0 = ka0 m 0 0)
def iW (ms : List (List Int)) (m : List Int) : Bool := ms.any fun x => thE x m
theorem u3o (ms : List (List Int)) (m : List Int) : iW (ka2 0 ms) m = false := rfl
theorem lX {ms : List (List Int)} {m : List Int} {j : Nat} (h : j < ms.length) : iW (ka2 (j + 1) ms) m = (iW (ka2 j ms) m || thE (ka0 ms j []) m) := by
 unfold iW
 rw [ka8, ka9 h, List.take_succ_eq_append_getElem h, List.any_append]
 simp
theorem k46 {ms : List (List Int)} {m : List Int} {j : Nat} (h : j < ms.length) (h1 : iW (ka2 j ms) m = true) : iW (ka2 (j + 1) ms) m = true := by
 rw [lX h, h1]; rfl
theorem k48 {ms : List (List Int)} {m : List Int} {j : Nat} (h : j < ms.length) (h1 : ka1 (ka0 ms j []) = ka1 m ∧ ka0 (ka0 ms j []) 0 0 = ka0 m 0 0) : iW (ka2 (j + 1) ms) m = true := by
 rw [lX h, show thE (ka0 ms j []) m = true from decide_eq_true h1, Bool.or_true]
theorem k47 {ms : List (List Int)} {m : List Int} {j : Nat} (h : j < ms.length) (h0 : iW (ka2 j ms) m = false) (h1 : ¬ (ka1 (ka0 ms j []) = ka1 m ∧ ka0 (ka0 ms j []) 0 0 = ka0 m 0 0)) : iW (ka2 (j + 1) ms) m = false := by
 rw [lX h, h0, show thE (ka0 ms j []) m = false from decide_eq_false h1]; rfl
def i0 (l : List Int) : Nat → List Int
 | 0 => l
 | i + 1 => kA (i0 l i) 7
def iZ (l : List Int) : Nat → List (List Int)
 | 0 => []
 | i + 1 => if iW (iZ l i) (uL (i0 l i)) = true then iZ l i else iZ l i ++ [uL (i0 l i)]
theorem dN {l : List Int} (h : Byt l) : ∀ i, Byt (i0 l i)
 | 0 => h
 | i + 1 => kF _ (dN h i)
theorem u1i {l : List Int} {i : Nat} {ms : List (List Int)} (h : iZ l i = ms) (h1 : iW ms (uL (i0 l i)) = true) : iZ l (i + 1) = ms := by
 subst h; exact if_pos h1
theorem u1l {l : List Int} {i : Nat} {ms : List (List Int)} (h : iZ l i = ms) (h1 : iW ms (uL (i0 l i)) = false) : iZ l (i + 1) = ms ++ [uL (i0 l i)] := by
 subst h; exact if_neg (by rw [h1]; decide)
theorem u45 {l : List Int} {k : Int} {i : Nat} {y x : Int} (h : knK l k i = y) (hx : x = zP y (kbV (aT l i))) : knK l k (i + 1) = x := by
 subst h; rw [hx]; rfl
theorem lY {ms : List (List Int)} {m : List Int} {j c : Nat} {f : Bool} (hc : ms.length = c) (hj : c ≤ j) (h : iW (ka2 j ms) m = f) : iW ms m = f := by
 rw [kc2 (by omega)] at h; exact h
theorem k13 (l : List Int) : ∀ i, MsW (iZ l i)
 | 0 => MsW.nil
 | i + 1 => by
  rw [iZ]; split
  ·exact k13 l i
  ·exact (k13 l i).snoc (ke8 (mK _) (by omega))
theorem sM (l : List Int) : ∀ i, ka1 (iZ l i) ≤ i
 | 0 => Nat.le_refl _
 | i + 1 => by
  have := sM l i
  rw [iZ]; split
  ·omega
  ·rw [ka4, List.length_singleton]; omega
def bo1 (l : List Int) : List Int := kA (kA l 7) 3
def bo2 (l : List Int) : List Int := aT (bo1 l) (kB (kA l 7) 3)
def rtT : List Int := [44100, 44100, 48000, 48000, 8000, 8000, 32000, 50000, 96000, 192000]
def szT : List Int := [16, 64, 64, 1024, 2048, 2048, 1, 65536]
def bo3 (l : List Int) : List Int := uZ rtT (bo2 l) 5
def bo4 (l : List Int) : List Int := uZ szT (bo3 l) 4
def bo5 (l : List Int) : List Int := kA (bo4 l) 3
def boN (l : List Int) : Nat := 1 + kB (bo4 l) 3
def zJ (l : List Int) : List Int := i0 (bo5 l) (boN l)
def pV (l : List Int) : Int := knK (bo1 l) (kbV l) (kB (kA l 7) 3)
def pU (l : List Int) : List Int := bH (y3 rtT (bo2 l) 5) (y1 rtT (bo2 l) 5)
def nY (l : List Int) : Nat := yG (y3 rtT (bo2 l) 5) (y1 rtT (bo2 l) 5)
def pT (l : List Int) : List Int := bH (y3 szT (bo3 l) 4) (y1 szT (bo3 l) 4)
def nX (l : List Int) : Nat := yG (y3 szT (bo3 l) 4) (y1 szT (bo3 l) 4)
def fT (l : List Int) : List (List Int) := iZ (bo5 l) (boN l)
def MsN (xs : List (List Int)) : Prop := ∀ l ∈ xs, 1 ≤ ka1 l
theorem MsN.nil : MsN [] := fun l h => by cases h
theorem MsN.snoc {xs : List (List Int)} {l : List Int} (h : MsN xs) (hl : 1 ≤ ka1 l) : MsN (xs ++ [l]) := fun m hm => (List.mem_append.1 hm).elim (h m) fun hm => by
 rw [List.mem_singleton.1 hm]; exact hl
theorem MsN.at {xs : List (List Int)} (h : MsN xs) {i : Nat} (hi : i < xs.length) : 1 ≤ ka1 (ka0 xs i []) := by
 rw [ka8, ka9 hi]; exact h _ (List.getElem_mem hi)
attribute [local irreducible] y3 uZ y1 bH yG kB kA uL iW
abbrev qF := ([44100, 44100, 48000, 48000, 8000, 8000, 32000, 50000, 96000, 192000] : List Int)
abbrev qE (l : List Int) := aT (kA (kA l 7) 3) (kB (kA l 7) 3)
abbrev kH (l : List Int) := uZ qF (qE l) 5
abbrev kJ := ([16, 64, 64, 1024, 2048, 2048, 1, 65536] : List Int)
abbrev uQ (l : List Int) := kA (uZ kJ (kH l) 4) 3
abbrev kI (l : List Int) (i2 : Nat) := i0 (uQ l) i2
abbrev yD (l : List Int) := bH (y3 qF (qE l) 5) (y1 qF (qE l) 5)
abbrev yK (l : List Int) := bH (y3 kJ (kH l) 4) (y1 kJ (kH l) 4)
theorem v9 {p : Prop} (h : p := by first | omega | assumption | simp) : p := h
theorem aZ {p : Prop} (h : p := by first | rfl | omega | assumption | (simp; done) | (simp; omega)) : p := h
theorem cW {p : Prop} (h : p := by first | omega | (show _ < _; simp; omega)) : p := h
theorem a2 {p : Prop} (h : p := by first | omega | (simp only [kR, kQ, qJ, ka4, kb2, kb5, kb3, kb1, kb4, kc4, kd0, kc8, kc3] <;> omega) | rfl) : p := h
theorem gC {p : Prop} (h : p := by first | rfl | assumption | simp) : p := h
abbrev yT (y : Int) (l : List Int) (q : Nat) : BC := .cs [iC y, .d (D.sl (dI .i64 (yD l)) (yG (y3 qF (qE l) 5) (y1 qF (qE l) 5))), .own 6 0 q 1 true, .d (D.sl (dI .i64 (yK l)) (yG (y3 kJ (kH l) 4) (y1 kJ (kH l) 4)))]
abbrev uB : BC := .ds [iD 0, D.lit (.slice none 0 0), D.lit (.slice none 0 0), D.lit (.slice none 0 0)]
abbrev yN (l : List Int) (i2 : Nat) : BC := .ds [D.sl (dI .u8 (kA (kI l i2) 7)) (ka1 (kA (kI l i2) 7))]
abbrev fV (l : List Int) (i : Nat) : BC := .ds [D.sl (dI .u8 (aT (kA (kA l 7) 3) i)) (ka1 (aT (kA (kA l 7) 3) i))]
abbrev fU (y : Int) : BC := .ds [iD y, D.lit (.slice none 0 0), D.lit (.slice none 0 0), D.lit (.slice none 0 0)]
theorem u2p (l : List Int) (hb : Byt l) : Fun 46 [.c (.ptr 0 0)] (kG [(0, some (66, .ds [D.sl (dI .u8 l) (ka1 l)]))]) 1 (.e (.agg [iC (pV l), .d (D.sl (dI .i64 (pU l)) (nY l)), .d (D.sl (qA (fT l)) (ka1 (fT l))), .d (D.sl (dI .i64 (pT l)) (nX l))])) (kG [(0, some (66, .ds [D.sl (dI .u8 (zJ l)) (ka1 (zJ l))]))]) 1 := by
 refine Fun.mk (n := 89) Try.func46 rfl rfl (Nat.le_of_ble_eq_true rfl) ?_
 intro cx hcx
 refine kK [.no] True [(0, rV 0 0), (2, rV 1 0)] [(0, some (66, .ds [db l (ka1 l)])), (1, some (78, uB))] 2 trivial ?_
 have hx1 : ((((((kB l 7) : Nat) : Int) < 7) ∨ ((kB l 7) = 0)) ∧ ((kB l 7) ≤ 255)) := kO l (7 : Int) (kP : Byt l)
 have hx2 : (Byt (kA l 7)) := kF (7 : Int) (kP : Byt l)
 refine kK [.no, .call [0] (uV (kB l 7)) [(0, some (66, .ds [db (kA l 7) (ka1 (kA l 7))]))] 1 [] none, .w, .n2 (1 + (kB l 7)) 0, .no, .no, .no] ((_) ∧ (qL (1 + (kB l 7 : Int))) ∧ (((1 + (kB l 7 : Int)) : Int) = (((1 + (kB l 7)) : Nat) : Int)) ∧ ((1 + (kB l 7)) ≤ 64)) [(0, rV 0 0), (2, rV 1 0), (3, rV 2 0)] [(0, some (66, .ds [db (kA l 7) (ka1 (kA l 7))])), (1, some (78, uB)), (2, some (78, .ds [iD (IntKind.i64.wrap (1 * (((2 ^ (1 + (kB l 7))) : Nat) : Int))), qH, qH, qH]))] 3 ⟨(qW l 7 (kP : Byt l)), ⟨by omega, by omega⟩, (by first | rfl | omega), zo⟩ ?_
 refine AW.seq ?_
 have hx3 : ((((((kB (kA l 7) 3) : Nat) : Int) < 3) ∨ ((kB (kA l 7) 3) = 0)) ∧ ((kB (kA l 7) 3) ≤ 255)) := kO (kA l 7) (3 : Int) (kP : Byt (kA l 7))
 have hx4 : (Byt (kA (kA l 7) 3)) := kF (3 : Int) (kP : Byt (kA l 7))
 refine kK [.no, .call [0] (uV (kB (kA l 7) 3)) [(0, some (66, .ds [db (kA (kA l 7) 3) (ka1 (kA (kA l 7) 3))]))] 1 [] none, .no] _ [(0, rV 0 0), (2, rV 1 0), (3, rV 2 0), (4, uV (kB (kA l 7) 3))] [(0, some (66, .ds [db (kA (kA l 7) 3) (ka1 (kA (kA l 7) 3))])), (1, some (78, uB)), (2, some (78, .ds [iD (IntKind.i64.wrap (1 * (((2 ^ (1 + (kB l 7))) : Nat) : Int))), qH, qH, qH]))] 3 (qW (kA l 7) 3 (kP : Byt (kA l 7))) ?_
 refine AW.block ?_
 refine kW 1 hcx (fun (x : {x : Nat × Int // match x with | (i, y) => (i ≤ kB (kA l 7) 3) ∧ (knK (kA (kA l 7) 3) (kbV l) i = y)}) => match x with | ⟨(i, y), _⟩ => (⟨[(0, rV 0 0), (2, rV 1 0), (3, rV 2 0), (4, iV ((kB (kA l 7) 3 : Int) - (i : Int)))], [(0, some (66, (fV l i))), (1, some (78, uB)), (2, some (78, (fU y)))], 3⟩ : ES)) (fun x => match x with | ⟨(i, y), _⟩ => kB (kA l 7) 3 - i) ⟨((0 : Nat), ((IntKind.i64.wrap (1 * (((2 ^ (1 + (kB l 7))) : Nat) : Int))) : Int)), ⟨v9, rfl⟩⟩ [] (P := (kM 0) ∧ (kM 0) ∧ (kM 0) ∧ ((((kB (kA l 7) 3 : Int) - 0) : Int) = (kB (kA l 7) 3 : Int)) ∧ (([db (aT (kA (kA l 7) 3) 0) (ka1 (aT (kA (kA l 7) 3) 0))] : List D) = [db (kA (kA l 7) 3) (ka1 (kA (kA l 7) 3))]) ∧ (k8 [iD 0, qH, qH, qH]) ∧ (k8 [iD (IntKind.i64.wrap (1 * (((2 ^ (1 + (kB l 7))) : Nat) : Int))), qH, qH, qH])) zk ⟨rfl, rfl, rfl, aZ, (by first | rfl | with_reducible assumption | (simp only [u6, qS, qD]; rfl) | (congr 1; first | assumption | (simp; done) | omega)), rfl, rfl⟩ ?_
 rintro ⟨⟨i, y⟩, hinv0⟩
 obtain ⟨hi, hy⟩ : (i ≤ kB (kA l 7) 3) ∧ (knK (kA (kA l 7) 3) (kbV l) i = y) := hinv0
 refine uI (l := [(0, rV 0 0), (2, rV 1 0), (3, rV 2 0), (4, iV ((kB (kA l 7) 3 : Int) - (i : Int)))]) (g := [(0, some (66, (fV l i))), (1, some (78, uB)), (2, some (78, (fU y)))]) (nx := 3) rfl rfl rfl ?_
 refine AW.seq ?_
 by_cases hx5 : ((0 : Int) < ((((kB (kA l 7) 3) : Nat) : Int) - ((i : Nat) : Int)))
 ·refine kK [.no, .b true] (((0 : Int) < ((kB (kA l 7) 3 : Int) - (i : Int)))) [(0, rV 0 0), (2, rV 1 0), (3, rV 2 0), (4, iV ((kB (kA l 7) 3 : Int) - ↑i)), (18, bV true)] [(0, some (66, (fV l i))), (1, some (78, uB)), (2, some (78, (fU y)))] 3 zo ?_
  refine vD ?_
  refine AW.seq ?_
  refine AW.block ?_
  have hx6 : ((((((kB (aT (kA (kA l 7) 3) i) 7) : Nat) : Int) < 7) ∨ ((kB (aT (kA (kA l 7) 3) i) 7) = 0)) ∧ ((kB (aT (kA (kA l 7) 3) i) 7) ≤ 255)) := kO (aT (kA (kA l 7) 3) i) (7 : Int) ((yX (kP : Byt (kA (kA l 7) 3)) _))
  have hx7 : (Byt (kA (aT (kA (kA l 7) 3) i) 7)) := kF (7 : Int) ((yX (kP : Byt (kA (kA l 7) 3)) _))
  refine aX [.no, .no, .no, .call [0] (iV (kB (aT (kA (kA l 7) 3) i) 7 : Int)) [(0, some (66, .ds [db (kA (aT (kA (kA l 7) 3) i) 7) (ka1 (kA (aT (kA (kA l 7) 3) i) 7))]))] 1 [] none, .w, .n2 (1 + (kB (aT (kA (kA l 7) 3) i) 7)) 0, .i (zP y (IntKind.i64.wrap (1 * (((2 ^ (1 + (kB (aT (kA (kA l 7) 3) i) 7))) : Nat) : Int)))), .no, .no] ((_) ∧ ((-9223372036854775808) ≤ (1 + (kB (aT (kA (kA l 7) 3) i) 7 : Int)) ∧ (1 + (kB (aT (kA (kA l 7) 3) i) 7 : Int)) ≤ 9223372036854775807) ∧ (((1 + (kB (aT (kA (kA l 7) 3) i) 7 : Int)) : Int) = (((1 + (kB (aT (kA (kA l 7) 3) i) 7)) : Nat) : Int)) ∧ ((1 + (kB (aT (kA (kA l 7) 3) i) 7)) ≤ 64) ∧ (qK .or .i64 y (IntKind.i64.wrap (1 * (((2 ^ (1 + (kB (aT (kA (kA l 7) 3) i) 7))) : Nat) : Int))) = (zP y (IntKind.i64.wrap (1 * (((2 ^ (1 + (kB (aT (kA (kA l 7) 3) i) 7))) : Nat) : Int)))))) [(0, rV 0 0), (2, rV 1 0), (3, rV 2 0), (4, iV ((kB (kA l 7) 3 : Int) - ↑i))] [(0, some (66, .ds [db (kA (aT (kA (kA l 7) 3) i) 7) (ka1 (kA (aT (kA (kA l 7) 3) i) 7))])), (1, some (78, uB)), (2, some (78, .ds [iD (zP y (IntKind.i64.wrap (1 * (((2 ^ (1 + (kB (aT (kA (kA l 7) 3) i) 7))) : Nat) : Int)))), qH, qH, qH]))] 3 ⟨(qW (aT (kA (kA l 7) 3) i) 7 (yX (kP : Byt (kA (kA l 7) 3)) _)), ⟨by omega, by omega⟩, (by first | rfl | omega), zo, rfl⟩ ?_
  refine yH [.no, .w, .no] (qL (((kB (kA l 7) 3 : Int) - (i : Int)) - 1)) [(0, rV 0 0), (2, rV 1 0), (3, rV 2 0), (4, iV (((kB (kA l 7) 3 : Int) - ↑i) - 1))] ⟨by omega, by omega⟩ ?_
  exact qQ ⟨(((i + 1) : Nat), ((zP y (IntKind.i64.wrap (1 * (((2 ^ (1 + (kB (aT (kA (kA l 7) 3) i) 7))) : Nat) : Int)))) : Int)), ⟨v9, (u45 hy rfl)⟩⟩ [] (P := (kM 0) ∧ (kM 0) ∧ (kM 0) ∧ ((((kB (kA l 7) 3 : Int) - (((i + 1) : Nat) : Int)) : Int) = (((kB (kA l 7) 3 : Int) - (i : Int)) - 1)) ∧ (([db (aT (kA (kA l 7) 3) (i + 1)) (ka1 (aT (kA (kA l 7) 3) (i + 1)))] : List D) = [db (kA (aT (kA (kA l 7) 3) i) 7) (ka1 (kA (aT (kA (kA l 7) 3) i) 7))]) ∧ (k8 [iD 0, qH, qH, qH]) ∧ (k8 [iD (zP y (IntKind.i64.wrap (1 * (((2 ^ (1 + (kB (aT (kA (kA l 7) 3) i) 7))) : Nat) : Int)))), qH, qH, qH])) zk ⟨rfl, rfl, rfl, aZ, (by first | rfl | with_reducible assumption | (simp only [u6, qS, qD]; rfl) | (congr 1; first | assumption | (simp; done) | omega)), rfl, rfl⟩ (show kB (kA l 7) 3 - (i + 1) < kB (kA l 7) 3 - i from cW)
 ·refine kK [.no, .b false] (¬ ((0 : Int) < ((kB (kA l 7) 3 : Int) - (i : Int)))) [(0, rV 0 0), (2, rV 1 0), (3, rV 2 0), (4, iV ((kB (kA l 7) 3 : Int) - ↑i)), (18, bV false)] [(0, some (66, (fV l i))), (1, some (78, uB)), (2, some (78, (fU y)))] 3 zo ?_
  refine zf ?_
  refine AW.exit ?_
  obtain rfl : i = (kB (kA l 7) 3) := (by omega)
  refine kK (kU 6 [(.fz (.no)), .call [0] (.e (.agg [.d (dl (yD l) (yG (y3 qF (qE l) 5) (y1 qF (qE l) 5)))])) [(0, some (66, .ds [db (kH l) (ka1 (kH l))]))] 1 [] none, .no, .no]) ((([iD 44100, iD 44100, iD 48000, iD 48000, iD 8000, iD 8000, iD 32000, iD 50000, iD 96000, iD 192000] : List D).length = 5 * 2) ∧ (_)) [(0, rV 0 0), (2, rV 1 0), (3, rV 2 0)] [(0, some (66, .ds [db (kH l) (ka1 (kH l))])), (1, some (78, uB)), (2, some (78, .ds [iD y, dl (yD l) (yG (y3 qF (qE l) 5) (y1 qF (qE l) 5)), qH, qH]))] 4 ⟨a2, (k7j qF 5 (qE l) (by first | omega | with_reducible assumption | (simp only [kR, kQ, ka4, kb2, kb5, kb3, kb1, kb4, kc4] <;> omega) | rfl | assumption) zo zo (yX (kP : Byt (kA (kA l 7) 3)) _))⟩ ?_
  refine kK (kU 5 [(.fz (.no)), .call [0] (.e (.agg [.d (dl (yK l) (yG (y3 kJ (kH l) 4) (y1 kJ (kH l) 4)))])) [(0, some (66, .ds [db (uZ kJ (kH l) 4) (ka1 (uZ kJ (kH l) 4))]))] 1 [] none, .no, .no]) ((([iD 16, iD 64, iD 64, iD 1024, iD 2048, iD 2048, iD 1, iD 65536] : List D).length = 4 * 2) ∧ (_)) [(0, rV 0 0), (2, rV 1 0), (3, rV 2 0)] [(0, some (66, .ds [db (uZ kJ (kH l) 4) (ka1 (uZ kJ (kH l) 4))])), (1, some (78, uB)), (2, some (78, .ds [iD y, dl (yD l) (yG (y3 qF (qE l) 5) (y1 qF (qE l) 5)), qH, dl (yK l) (yG (y3 kJ (kH l) 4) (y1 kJ (kH l) 4))]))] 5 ⟨a2, (k7j kJ 4 (kH l) (by first | omega | with_reducible assumption | (simp only [kR, kQ, ka4, kb2, kb5, kb3, kb1, kb4, kc4] <;> omega) | rfl | assumption) zo zo (y6 (yX (kP : Byt (kA (kA l 7) 3)) _)))⟩ ?_
  refine AW.seq ?_
  have hx8 : ((((((kB (uZ kJ (kH l) 4) 3) : Nat) : Int) < 3) ∨ ((kB (uZ kJ (kH l) 4) 3) = 0)) ∧ ((kB (uZ kJ (kH l) 4) 3) ≤ 255)) := kO (uZ kJ (kH l) 4) (3 : Int) ((y6 (y6 (yX (kP : Byt (kA (kA l 7) 3)) _))))
  have hx9 : (Byt (uQ l)) := kF (3 : Int) ((y6 (y6 (yX (kP : Byt (kA (kA l 7) 3)) _))))
  refine kK [.no, .call [0] (uV (kB (uZ kJ (kH l) 4) 3)) [(0, some (66, .ds [db (uQ l) (ka1 (uQ l))]))] 1 [] none, .w, .no] ((_) ∧ (qL (1 + (kB (uZ kJ (kH l) 4) 3 : Int)))) [(0, rV 0 0), (2, rV 1 0), (3, rV 2 0), (5, iV (1 + (kB (uZ kJ (kH l) 4) 3 : Int)))] [(0, some (66, .ds [db (uQ l) (ka1 (uQ l))])), (1, some (78, uB)), (2, some (78, .ds [iD y, dl (yD l) (yG (y3 qF (qE l) 5) (y1 qF (qE l) 5)), qH, dl (yK l) (yG (y3 kJ (kH l) 4) (y1 kJ (kH l) 4))]))] 5 ⟨(qW (uZ kJ (kH l) 4) 3 (y6 (y6 (yX (kP : Byt (kA (kA l 7) 3)) _)))), ⟨by omega, by omega⟩⟩ ?_
  refine AW.block ?_
  refine lD 2 2 1 63 (cs' := [iC y, .d (dl (yD l) (yG (y3 qF (qE l) 5) (y1 qF (qE l) 5))), .own 5 0 0 1 true, .d (dl (yK l) (yG (y3 kJ (kH l) 4) (y1 kJ (kH l) 4)))]) rfl rfl rfl ?_
  refine kW 1 hcx (fun (x : {x : Nat × Nat × List (List Int) // match x with | (i2, q, ms) => (i2 ≤ 1 + kB (uZ kJ (kH l) 4) 3) ∧ (iZ (uQ l) i2 = ms) ∧ (ka1 ms = q ∧ q ≤ i2) ∧ (MsN ms) ∧ (MsW ms)}) => match x with | ⟨(i2, q, ms), _⟩ => (⟨[(0, rV 0 0), (2, rV 1 0), (3, rV 2 0), (5, iV ((((1 + (kB (uZ kJ (kH l) 4) 3)) : Nat) : Int) - (i2 : Int)))], [(0, some (66, .ds [db (kI l i2) (ka1 (kI l i2))])), (1, some (78, uB)), (2, some (78, (yT y l q))), (6, some (63, .ds (qA ms)))], 7⟩ : ES)) (fun x => match x with | ⟨(i2, q, ms), _⟩ => 1 + kB (uZ kJ (kH l) 4) 3 - i2) ⟨((0 : Nat), (0 : Nat), (([] : List (List Int)) : List (List Int))), ⟨v9, rfl, ⟨rfl, by omega⟩, MsN.nil, MsW.nil⟩⟩ [(6, 5)] (P := (kM 0) ∧ (kM 0) ∧ (kM 0) ∧ ((((((1 + (kB (uZ kJ (kH l) 4) 3)) : Nat) : Int) - 0) : Int) = (1 + (kB (uZ kJ (kH l) 4) 3 : Int))) ∧ (([db (i0 (uQ l) 0) (ka1 (i0 (uQ l) 0))] : List D) = [db (uQ l) (ka1 (uQ l))]) ∧ (k8 [iD 0, qH, qH, qH]) ∧ (kN y) ∧ (k8 (dI .i64 (yD l))) ∧ (kM (yG (y3 qF (qE l) 5) (y1 qF (qE l) 5))) ∧ (kM 0) ∧ (kM 0) ∧ (k8 (dI .i64 (yK l))) ∧ (kM (yG (y3 kJ (kH l) 4) (y1 kJ (kH l) 4))) ∧ (((qA ([] : List (List Int))) : List D) = ([] : List D))) zk ⟨rfl, rfl, rfl, aZ, (by first | rfl | with_reducible assumption), rfl, rfl, rfl, rfl, rfl, rfl, rfl, rfl, (by first | rfl | with_reducible assumption)⟩ ?_
  rintro ⟨⟨i2, q, ms⟩, hinv1⟩
  obtain ⟨hi2, hm, hq, hN, hW⟩ : (i2 ≤ 1 + kB (uZ kJ (kH l) 4) 3) ∧ (iZ (uQ l) i2 = ms) ∧ (ka1 ms = q ∧ q ≤ i2) ∧ (MsN ms) ∧ (MsW ms) := hinv1
  refine uI (l := [(0, rV 0 0), (2, rV 1 0), (3, rV 2 0), (5, iV ((((1 + (kB (uZ kJ (kH l) 4) 3)) : Nat) : Int) - (i2 : Int)))]) (g := [(0, some (66, .ds [db (kI l i2) (ka1 (kI l i2))])), (1, some (78, uB)), (2, some (78, (yT y l q))), (6, some (63, .ds (qA ms)))]) (nx := 7) rfl rfl rfl ?_
  refine AW.seq ?_
  by_cases hx10 : ((0 : Int) < ((((1 + (kB (uZ kJ (kH l) 4) 3)) : Nat) : Int) - ((i2 : Nat) : Int)))
  ·refine kK [.no, .b true] (((0 : Int) < ((((1 + (kB (uZ kJ (kH l) 4) 3)) : Nat) : Int) - (i2 : Int)))) [(0, rV 0 0), (2, rV 1 0), (3, rV 2 0), (5, iV ((((1 + (kB (uZ kJ (kH l) 4) 3)) : Nat) : Int) - ↑i2)), (50, bV true)] [(0, some (66, .ds [db (kI l i2) (ka1 (kI l i2))])), (1, some (78, uB)), (2, some (78, (yT y l q))), (6, some (63, .ds (qA ms)))] 7 zo ?_
   refine vD ?_
   refine AW.seq ?_
   refine AW.block ?_
   have hx11 : (((1 : Nat) ≤ (ka1 (uL (kI l i2)))) ∧ ((ka1 (uL (kI l i2))) ≤ 6)) := (k4r ((dN (kP : Byt (uQ l)) _)))
   refine kK [.no, .call [0] (sV .i64 (uL (kI l i2)) (ka1 (uL (kI l i2)))) [(0, some (66, (yN l i2)))] 1 [] none, .no] _ [(0, rV 0 0), (2, rV 1 0), (3, rV 2 0), (5, iV ((((1 + (kB (uZ kJ (kH l) 4) 3)) : Nat) : Int) - ↑i2)), (6, sV .i64 (uL (kI l i2)) (ka1 (uL (kI l i2))))] [(0, some (66, (yN l i2))), (1, some (78, uB)), (2, some (78, (yT y l q))), (6, some (63, .ds (qA ms)))] 7 (u2q (kI l i2) (dN (kP : Byt (uQ l)) _)) ?_
   refine kX [.no] True [(0, rV 0 0), (2, rV 1 0), (3, rV 2 0), (5, iV ((((1 + (kB (uZ kJ (kH l) 4) 3)) : Nat) : Int) - ↑i2)), (6, sV .i64 (uL (kI l i2)) (ka1 (uL (kI l i2)))), (7, bV false)] trivial ?_
   refine AW.seq ?_
   refine kX (kU 4 []) True [(0, rV 0 0), (2, rV 1 0), (3, rV 2 0), (5, iV ((((1 + (kB (uZ kJ (kH l) 4) 3)) : Nat) : Int) - ↑i2)), (6, sV .i64 (uL (kI l i2)) (ka1 (uL (kI l i2)))), (7, bV false), (56, oV 6 0 q 1), (57, uV q), (58, iV 0)] trivial ?_
   refine AW.block ?_
   refine kW 1 hcx (fun (x : {x : Nat × Bool // match x with | (j, f) => (j ≤ q) ∧ (iW (ka2 j ms) (uL (kI l i2)) = f)}) => match x with | ⟨(j, f), _⟩ => (⟨[(0, rV 0 0), (2, rV 1 0), (3, rV 2 0), (5, iV ((((1 + (kB (uZ kJ (kH l) 4) 3)) : Nat) : Int) - (i2 : Int))), (6, sV .i64 (uL (kI l i2)) (ka1 (uL (kI l i2)))), (7, kS (D.lit (.bool (f)))), (56, oV 6 0 q 1), (57, uV q), (58, uV j)], [(0, some (66, (yN l i2))), (1, some (78, uB)), (2, some (78, (yT y l q))), (6, some (63, .ds (qA ms)))], 7⟩ : ES)) (fun x => match x with | ⟨(j, f), _⟩ => q - j) ⟨((0 : Nat), (false : Bool)), ⟨v9, (u3o _ _)⟩⟩ [] (P := (kM 0) ∧ (kM 0) ∧ (kM 0) ∧ (kN ((((1 + (kB (uZ kJ (kH l) 4) 3)) : Nat) : Int) - (i2 : Int))) ∧ (k8 (dI .i64 (uL (kI l i2)))) ∧ (kM (ka1 (uL (kI l i2)))) ∧ ((false) = false) ∧ (kM 0) ∧ (kM q) ∧ (kN (q : Int)) ∧ (kN 0) ∧ (k8 [db (kA (kI l i2) 7) (ka1 (kA (kI l i2) 7))]) ∧ (k8 [iD 0, qH, qH, qH]) ∧ (kN y) ∧ (k8 (dI .i64 (yD l))) ∧ (kM (yG (y3 qF (qE l) 5) (y1 qF (qE l) 5))) ∧ (kM 0) ∧ (kM q) ∧ (k8 (dI .i64 (yK l))) ∧ (kM (yG (y3 kJ (kH l) 4) (y1 kJ (kH l) 4))) ∧ (k8 (qA ms))) zk ⟨rfl, rfl, rfl, rfl, rfl, rfl, gC, rfl, rfl, rfl, rfl, rfl, rfl, rfl, rfl, rfl, rfl, rfl, rfl, rfl, rfl⟩ ?_
   rintro ⟨⟨j, f⟩, hinv2⟩
   obtain ⟨hj, hf⟩ : (j ≤ q) ∧ (iW (ka2 j ms) (uL (kI l i2)) = f) := hinv2
   refine uI (l := [(0, rV 0 0), (2, rV 1 0), (3, rV 2 0), (5, iV ((((1 + (kB (uZ kJ (kH l) 4) 3)) : Nat) : Int) - (i2 : Int))), (6, sV .i64 (uL (kI l i2)) (ka1 (uL (kI l i2)))), (7, kS (D.lit (.bool (f)))), (56, oV 6 0 q 1), (57, uV q), (58, uV j)]) (g := [(0, some (66, (yN l i2))), (1, some (78, uB)), (2, some (78, (yT y l q))), (6, some (63, .ds (qA ms)))]) (nx := 7) rfl rfl rfl ?_
   by_cases hx12 : (((j : Nat) : Int) < ((q : Nat) : Int))
   ·refine kK [.b true] (((j : Int) < (q : Int))) [(0, rV 0 0), (2, rV 1 0), (3, rV 2 0), (5, iV ((((1 + (kB (uZ kJ (kH l) 4) 3)) : Nat) : Int) - ↑i2)), (6, sV .i64 (uL (kI l i2)) (ka1 (uL (kI l i2)))), (7, kS (D.lit (.bool (f)))), (56, oV 6 0 q 1), (57, uV q), (58, uV j), (59, bV true)] [(0, some (66, (yN l i2))), (1, some (78, uB)), (2, some (78, (yT y l q))), (6, some (63, .ds (qA ms)))] 7 zo ?_
    refine AW.seq ?_
    refine vD ?_
    refine AW.seq ?_
    refine AW.block ?_
    have hx13 : ((ka1 (ka0 ms j ([] : List Int))) ≤ 1000000) := MsW.at (kP : MsW ms) _
    refine kX [.n2 j j, .d (dl (ka0 ms j ([] : List Int)) (ka1 (ka0 ms j ([] : List Int)))), .no] ((kN (j : Int)) ∧ (j < q) ∧ ((0 : Nat) + j * 1 = j) ∧ ((qA ms)[j]? = some (dl (ka0 ms j ([] : List Int)) (ka1 (ka0 ms j ([] : List Int)))))) [(0, rV 0 0), (2, rV 1 0), (3, rV 2 0), (5, iV ((((1 + (kB (uZ kJ (kH l) 4) 3)) : Nat) : Int) - ↑i2)), (6, sV .i64 (uL (kI l i2)) (ka1 (uL (kI l i2)))), (7, kS (D.lit (.bool (f)))), (9, sV .i64 (ka0 ms j ([] : List Int)) (ka1 (ka0 ms j ([] : List Int)))), (56, oV 6 0 q 1), (57, uV q), (58, uV j)] ⟨rfl, zo, zo, (k4o _ _ (by first | omega | (simp only [kR, kQ, ka4, kb2, kb5, kb3, kb1] <;> omega)))⟩ ?_
    rcases Bool.eq_false_or_eq_true (f) with hx15 | hx15
    ·subst hx15
     have hx16 : 1 ≤ ka1 (ka0 ms j ([] : List Int)) := hN.at zo
     refine aX (kU 4 []) True [(0, rV 0 0), (2, rV 1 0), (3, rV 2 0), (5, iV ((((1 + (kB (uZ kJ (kH l) 4) 3)) : Nat) : Int) - ↑i2)), (6, sV .i64 (uL (kI l i2)) (ka1 (uL (kI l i2)))), (7, bV true), (56, oV 6 0 q 1), (57, uV q), (58, uV j)] [(0, some (66, (yN l i2))), (1, some (78, uB)), (2, some (78, (yT y l q))), (6, some (63, .ds (qA ms)))] 7 trivial ?_
     refine yH [.w, .no] (qL ((j : Int) + 1)) [(0, rV 0 0), (2, rV 1 0), (3, rV 2 0), (5, iV ((((1 + (kB (uZ kJ (kH l) 4) 3)) : Nat) : Int) - ↑i2)), (6, sV .i64 (uL (kI l i2)) (ka1 (uL (kI l i2)))), (7, bV true), (56, oV 6 0 q 1), (57, uV q), (58, iV (↑j + 1))] ⟨by omega, by omega⟩ ?_
     exact qQ ⟨(((j + 1) : Nat), (true : Bool)), ⟨v9, (by first | exact k46 zo hf | exact k48 zo zo | exact k47 zo hf zo)⟩⟩ [] (P := (kM 0) ∧ (kM 0) ∧ (kM 0) ∧ (kN ((((1 + (kB (uZ kJ (kH l) 4) 3)) : Nat) : Int) - (i2 : Int))) ∧ (k8 (dI .i64 (uL (kI l i2)))) ∧ (kM (ka1 (uL (kI l i2)))) ∧ ((true) = true) ∧ (kM 0) ∧ (kM q) ∧ (kN (q : Int)) ∧ (((((j + 1) : Nat) : Int) : Int) = ((j : Int) + 1)) ∧ (k8 [db (kA (kI l i2) 7) (ka1 (kA (kI l i2) 7))]) ∧ (k8 [iD 0, qH, qH, qH]) ∧ (kN y) ∧ (k8 (dI .i64 (yD l))) ∧ (kM (yG (y3 qF (qE l) 5) (y1 qF (qE l) 5))) ∧ (kM 0) ∧ (kM q) ∧ (k8 (dI .i64 (yK l))) ∧ (kM (yG (y3 kJ (kH l) 4) (y1 kJ (kH l) 4))) ∧ (k8 (qA ms))) zk ⟨rfl, rfl, rfl, rfl, rfl, rfl, gC, rfl, rfl, rfl, aZ, rfl, rfl, rfl, rfl, rfl, rfl, rfl, rfl, rfl, rfl⟩ (show q - (j + 1) < q - j from cW)
    ·subst hx15
     by_cases hx18 : ((((ka1 (ka0 ms j ([] : List Int))) : Nat) : Int) = (((ka1 (uL (kI l i2))) : Nat) : Int))
     ·by_cases hx20 : ((ka0 (ka0 ms j ([] : List Int)) 0 0) = (ka0 (uL (kI l i2)) 0 0))
      ·have hx21 : 1 ≤ ka1 (ka0 ms j ([] : List Int)) := hN.at zo
       refine aX (kU 6 [.b true, .no, .no, .n 0, .d (D.lit (.int .i64 (ka0 (ka0 ms j ([] : List Int)) 0 0))), .no, .n 0, .d (D.lit (.int .i64 (ka0 (uL (kI l i2)) 0 0))), .b true, .no, .no, .no]) ((((((ka1 (ka0 ms j ([] : List Int))) : Nat) : Int) = (ka1 (uL (kI l i2)) : Int))) ∧ (kN 0) ∧ ((0 : Nat) < (ka1 (ka0 ms j ([] : List Int)))) ∧ ((ka7 0 (dI .i64 (ka0 ms j ([] : List Int))))[0]? = some (D.lit (.int .i64 (ka0 (ka0 ms j ([] : List Int)) 0 0)))) ∧ (kN 0) ∧ ((0 : Nat) < (ka1 (uL (kI l i2)))) ∧ ((ka7 0 (dI .i64 (uL (kI l i2))))[0]? = some (D.lit (.int .i64 (ka0 (uL (kI l i2)) 0 0)))) ∧ (((ka0 (ka0 ms j ([] : List Int)) 0 0) = (ka0 (uL (kI l i2)) 0 0)))) [(0, rV 0 0), (2, rV 1 0), (3, rV 2 0), (5, iV ((((1 + (kB (uZ kJ (kH l) 4) 3)) : Nat) : Int) - ↑i2)), (6, sV .i64 (uL (kI l i2)) (ka1 (uL (kI l i2)))), (7, bV true), (56, oV 6 0 q 1), (57, uV q), (58, uV j)] [(0, some (66, (yN l i2))), (1, some (78, uB)), (2, some (78, (yT y l q))), (6, some (63, .ds (qA ms)))] 7 ⟨zo, rfl, zo, (qT _ _ _ a2), rfl, zo, (qT _ _ _ a2), zo⟩ ?_
       refine yH [.w, .no] (qL ((j : Int) + 1)) [(0, rV 0 0), (2, rV 1 0), (3, rV 2 0), (5, iV ((((1 + (kB (uZ kJ (kH l) 4) 3)) : Nat) : Int) - ↑i2)), (6, sV .i64 (uL (kI l i2)) (ka1 (uL (kI l i2)))), (7, bV true), (56, oV 6 0 q 1), (57, uV q), (58, iV (↑j + 1))] ⟨by omega, by omega⟩ ?_
       exact qQ ⟨(((j + 1) : Nat), (true : Bool)), ⟨v9, (by first | exact k46 zo hf | exact k48 zo zo | exact k47 zo hf zo)⟩⟩ [] (P := (kM 0) ∧ (kM 0) ∧ (kM 0) ∧ (kN ((((1 + (kB (uZ kJ (kH l) 4) 3)) : Nat) : Int) - (i2 : Int))) ∧ (k8 (dI .i64 (uL (kI l i2)))) ∧ (kM (ka1 (uL (kI l i2)))) ∧ ((true) = true) ∧ (kM 0) ∧ (kM q) ∧ (kN (q : Int)) ∧ (((((j + 1) : Nat) : Int) : Int) = ((j : Int) + 1)) ∧ (k8 [db (kA (kI l i2) 7) (ka1 (kA (kI l i2) 7))]) ∧ (k8 [iD 0, qH, qH, qH]) ∧ (kN y) ∧ (k8 (dI .i64 (yD l))) ∧ (kM (yG (y3 qF (qE l) 5) (y1 qF (qE l) 5))) ∧ (kM 0) ∧ (kM q) ∧ (k8 (dI .i64 (yK l))) ∧ (kM (yG (y3 kJ (kH l) 4) (y1 kJ (kH l) 4))) ∧ (k8 (qA ms))) zk ⟨rfl, rfl, rfl, rfl, rfl, rfl, gC, rfl, rfl, rfl, aZ, rfl, rfl, rfl, rfl, rfl, rfl, rfl, rfl, rfl, rfl⟩ (show q - (j + 1) < q - j from cW)
      ·have hx22 : 1 ≤ ka1 (ka0 ms j ([] : List Int)) := hN.at zo
       refine aX (kU 6 [.b true, .no, .no, .n 0, .d (D.lit (.int .i64 (ka0 (ka0 ms j ([] : List Int)) 0 0))), .no, .n 0, .d (D.lit (.int .i64 (ka0 (uL (kI l i2)) 0 0))), .b false, .no, .no, .no]) ((((((ka1 (ka0 ms j ([] : List Int))) : Nat) : Int) = (ka1 (uL (kI l i2)) : Int))) ∧ (kN 0) ∧ ((0 : Nat) < (ka1 (ka0 ms j ([] : List Int)))) ∧ ((ka7 0 (dI .i64 (ka0 ms j ([] : List Int))))[0]? = some (D.lit (.int .i64 (ka0 (ka0 ms j ([] : List Int)) 0 0)))) ∧ (kN 0) ∧ ((0 : Nat) < (ka1 (uL (kI l i2)))) ∧ ((ka7 0 (dI .i64 (uL (kI l i2))))[0]? = some (D.lit (.int .i64 (ka0 (uL (kI l i2)) 0 0)))) ∧ (¬ ((ka0 (ka0 ms j ([] : List Int)) 0 0) = (ka0 (uL (kI l i2)) 0 0)))) [(0, rV 0 0), (2, rV 1 0), (3, rV 2 0), (5, iV ((((1 + (kB (uZ kJ (kH l) 4) 3)) : Nat) : Int) - ↑i2)), (6, sV .i64 (uL (kI l i2)) (ka1 (uL (kI l i2)))), (7, bV false), (56, oV 6 0 q 1), (57, uV q), (58, uV j)] [(0, some (66, (yN l i2))), (1, some (78, uB)), (2, some (78, (yT y l q))), (6, some (63, .ds (qA ms)))] 7 ⟨zo, rfl, zo, (qT _ _ _ a2), rfl, zo, (qT _ _ _ a2), zo⟩ ?_
       refine yH [.w, .no] (qL ((j : Int) + 1)) [(0, rV 0 0), (2, rV 1 0), (3, rV 2 0), (5, iV ((((1 + (kB (uZ kJ (kH l) 4) 3)) : Nat) : Int) - ↑i2)), (6, sV .i64 (uL (kI l i2)) (ka1 (uL (kI l i2)))), (7, bV false), (56, oV 6 0 q 1), (57, uV q), (58, iV (↑j + 1))] ⟨by omega, by omega⟩ ?_
       exact qQ ⟨(((j + 1) : Nat), (false : Bool)), ⟨v9, (by first | exact k46 zo hf | exact k48 zo zo | exact k47 zo hf zo)⟩⟩ [] (P := (kM 0) ∧ (kM 0) ∧ (kM 0) ∧ (kN ((((1 + (kB (uZ kJ (kH l) 4) 3)) : Nat) : Int) - (i2 : Int))) ∧ (k8 (dI .i64 (uL (kI l i2)))) ∧ (kM (ka1 (uL (kI l i2)))) ∧ ((false) = false) ∧ (kM 0) ∧ (kM q) ∧ (kN (q : Int)) ∧ (((((j + 1) : Nat) : Int) : Int) = ((j : Int) + 1)) ∧ (k8 [db (kA (kI l i2) 7) (ka1 (kA (kI l i2) 7))]) ∧ (k8 [iD 0, qH, qH, qH]) ∧ (kN y) ∧ (k8 (dI .i64 (yD l))) ∧ (kM (yG (y3 qF (qE l) 5) (y1 qF (qE l) 5))) ∧ (kM 0) ∧ (kM q) ∧ (k8 (dI .i64 (yK l))) ∧ (kM (yG (y3 kJ (kH l) 4) (y1 kJ (kH l) 4))) ∧ (k8 (qA ms))) zk ⟨rfl, rfl, rfl, rfl, rfl, rfl, gC, rfl, rfl, rfl, aZ, rfl, rfl, rfl, rfl, rfl, rfl, rfl, rfl, rfl, rfl⟩ (show q - (j + 1) < q - j from cW)
     ·have hx23 : 1 ≤ ka1 (ka0 ms j ([] : List Int)) := hN.at zo
      refine aX (kU 6 (.b false :: kU 4 [])) (¬ ((((ka1 (ka0 ms j ([] : List Int))) : Nat) : Int) = (ka1 (uL (kI l i2)) : Int))) [(0, rV 0 0), (2, rV 1 0), (3, rV 2 0), (5, iV ((((1 + (kB (uZ kJ (kH l) 4) 3)) : Nat) : Int) - ↑i2)), (6, sV .i64 (uL (kI l i2)) (ka1 (uL (kI l i2)))), (7, bV false), (56, oV 6 0 q 1), (57, uV q), (58, uV j)] [(0, some (66, (yN l i2))), (1, some (78, uB)), (2, some (78, (yT y l q))), (6, some (63, .ds (qA ms)))] 7 zo ?_
      refine yH [.w, .no] (qL ((j : Int) + 1)) [(0, rV 0 0), (2, rV 1 0), (3, rV 2 0), (5, iV ((((1 + (kB (uZ kJ (kH l) 4) 3)) : Nat) : Int) - ↑i2)), (6, sV .i64 (uL (kI l i2)) (ka1 (uL (kI l i2)))), (7, bV false), (56, oV 6 0 q 1), (57, uV q), (58, iV (↑j + 1))] ⟨by omega, by omega⟩ ?_
      exact qQ ⟨(((j + 1) : Nat), (false : Bool)), ⟨v9, (by first | exact k46 zo hf | exact k48 zo zo | exact k47 zo hf zo)⟩⟩ [] (P := (kM 0) ∧ (kM 0) ∧ (kM 0) ∧ (kN ((((1 + (kB (uZ kJ (kH l) 4) 3)) : Nat) : Int) - (i2 : Int))) ∧ (k8 (dI .i64 (uL (kI l i2)))) ∧ (kM (ka1 (uL (kI l i2)))) ∧ ((false) = false) ∧ (kM 0) ∧ (kM q) ∧ (kN (q : Int)) ∧ (((((j + 1) : Nat) : Int) : Int) = ((j : Int) + 1)) ∧ (k8 [db (kA (kI l i2) 7) (ka1 (kA (kI l i2) 7))]) ∧ (k8 [iD 0, qH, qH, qH]) ∧ (kN y) ∧ (k8 (dI .i64 (yD l))) ∧ (kM (yG (y3 qF (qE l) 5) (y1 qF (qE l) 5))) ∧ (kM 0) ∧ (kM q) ∧ (k8 (dI .i64 (yK l))) ∧ (kM (yG (y3 kJ (kH l) 4) (y1 kJ (kH l) 4))) ∧ (k8 (qA ms))) zk ⟨rfl, rfl, rfl, rfl, rfl, rfl, gC, rfl, rfl, rfl, aZ, rfl, rfl, rfl, rfl, rfl, rfl, rfl, rfl, rfl, rfl⟩ (show q - (j + 1) < q - j from cW)
   ·refine kK [.b false] (¬ ((j : Int) < (q : Int))) [(0, rV 0 0), (2, rV 1 0), (3, rV 2 0), (5, iV ((((1 + (kB (uZ kJ (kH l) 4) 3)) : Nat) : Int) - ↑i2)), (6, sV .i64 (uL (kI l i2)) (ka1 (uL (kI l i2)))), (7, kS (D.lit (.bool (f)))), (56, oV 6 0 q 1), (57, uV q), (58, uV j), (59, bV false)] [(0, some (66, (yN l i2))), (1, some (78, uB)), (2, some (78, (yT y l q))), (6, some (63, .ds (qA ms)))] 7 zo ?_
    refine AW.seq ?_
    refine zf ?_
    refine AW.exit ?_
    rcases Bool.eq_false_or_eq_true (f) with hx24 | hx24
    ·subst hx24
     refine kK [.no, .no] True [(0, rV 0 0), (2, rV 1 0), (3, rV 2 0), (5, iV ((((1 + (kB (uZ kJ (kH l) 4) 3)) : Nat) : Int) - ↑i2)), (6, sV .i64 (uL (kI l i2)) (ka1 (uL (kI l i2)))), (81, bV false)] [(0, some (66, (yN l i2))), (1, some (78, uB)), (2, some (78, (yT y l q))), (6, some (63, .ds (qA ms)))] 7 trivial ?_
     refine yV ?_
     refine yH [.no, .w, .no] ((-9223372036854775808) ≤ (((((1 + (kB (uZ kJ (kH l) 4) 3)) : Nat) : Int) - (i2 : Int)) - 1) ∧ (((((1 + (kB (uZ kJ (kH l) 4) 3)) : Nat) : Int) - (i2 : Int)) - 1) ≤ 9223372036854775807) [(0, rV 0 0), (2, rV 1 0), (3, rV 2 0), (5, iV (((((1 + (kB (uZ kJ (kH l) 4) 3)) : Nat) : Int) - ↑i2) - 1))] ⟨by omega, by omega⟩ ?_
     exact qQ ⟨(((i2 + 1) : Nat), (q : Nat), (ms : List (List Int))), ⟨v9, (by first | exact u1i hm (lY hq.1 zo hf) | exact u1l hm (lY hq.1 zo hf)), (by first | omega | (simp only [kR, kQ, ka4, kb2, kb5] <;> omega)), (by first | assumption | exact hN.snoc zo), (by first | assumption | exact hW.snoc (ke8 (mK _) zo))⟩⟩ [] (P := (kM 0) ∧ (kM 0) ∧ (kM 0) ∧ ((((((1 + (kB (uZ kJ (kH l) 4) 3)) : Nat) : Int) - (((i2 + 1) : Nat) : Int)) : Int) = (((((1 + (kB (uZ kJ (kH l) 4) 3)) : Nat) : Int) - (i2 : Int)) - 1)) ∧ (([db (i0 (uQ l) (i2 + 1)) (ka1 (i0 (uQ l) (i2 + 1)))] : List D) = [db (kA (kI l i2) 7) (ka1 (kA (kI l i2) 7))]) ∧ (k8 [iD 0, qH, qH, qH]) ∧ (kN y) ∧ (k8 (dI .i64 (yD l))) ∧ (kM (yG (y3 qF (qE l) 5) (y1 qF (qE l) 5))) ∧ (kM 0) ∧ (kM q) ∧ (k8 (dI .i64 (yK l))) ∧ (kM (yG (y3 kJ (kH l) 4) (y1 kJ (kH l) 4))) ∧ (k8 (qA ms))) zk ⟨rfl, rfl, rfl, aZ, (by first | rfl | with_reducible assumption), rfl, rfl, rfl, rfl, rfl, rfl, rfl, rfl, rfl⟩ (show 1 + kB (uZ kJ (kH l) 4) 3 - (i2 + 1) < 1 + kB (uZ kJ (kH l) 4) 3 - i2 from cW)
    ·subst hx24
     refine kK [.no, .no] True [(0, rV 0 0), (2, rV 1 0), (3, rV 2 0), (5, iV ((((1 + (kB (uZ kJ (kH l) 4) 3)) : Nat) : Int) - ↑i2)), (6, sV .i64 (uL (kI l i2)) (ka1 (uL (kI l i2)))), (81, bV true)] [(0, some (66, (yN l i2))), (1, some (78, uB)), (2, some (78, (yT y l q))), (6, some (63, .ds (qA ms)))] 7 trivial ?_
     refine zt ?_
     refine aX (kU 4 [.ap none (q + 1) (qA (ms ++ ([(uL (kI l i2))] : List (List Int)))), .no, .no]) (([dl (uL (kI l i2)) (ka1 (uL (kI l i2)))].length = 1 * 1) ∧ (((qA ms) : List D).length = q * 1) ∧ ((q + 1) * 24 ≤ 140737488355328) ∧ (q + 1 = (q + 1)) ∧ (((qA ms) : List D) ++ [dl (uL (kI l i2)) (ka1 (uL (kI l i2)))] = (qA (ms ++ ([(uL (kI l i2))] : List (List Int)))))) [(0, rV 0 0), (2, rV 1 0), (3, rV 2 0), (5, iV ((((1 + (kB (uZ kJ (kH l) 4) 3)) : Nat) : Int) - ↑i2))] [(0, some (66, (yN l i2))), (1, some (78, uB)), (2, some (78, .cs [iC y, .d (dl (yD l) (yG (y3 qF (qE l) 5) (y1 qF (qE l) 5))), .own 8 0 (q + 1) 1 true, .d (dl (yK l) (yG (y3 kJ (kH l) 4) (y1 kJ (kH l) 4)))])), (8, some (63, .ds (qA (ms ++ ([(uL (kI l i2))] : List (List Int))))))] 9 ⟨a2, a2, zo, zo, (wJ ms (uL (kI l i2)) (ka1 (uL (kI l i2))) (by first | rfl | omega))⟩ ?_
     refine yH [.no, .w, .no] ((-9223372036854775808) ≤ (((((1 + (kB (uZ kJ (kH l) 4) 3)) : Nat) : Int) - (i2 : Int)) - 1) ∧ (((((1 + (kB (uZ kJ (kH l) 4) 3)) : Nat) : Int) - (i2 : Int)) - 1) ≤ 9223372036854775807) [(0, rV 0 0), (2, rV 1 0), (3, rV 2 0), (5, iV (((((1 + (kB (uZ kJ (kH l) 4) 3)) : Nat) : Int) - ↑i2) - 1))] ⟨by omega, by omega⟩ ?_
     exact qQ ⟨(((i2 + 1) : Nat), ((q + 1) : Nat), ((ms ++ ([(uL (kI l i2))] : List (List Int))) : List (List Int))), ⟨v9, (by first | exact u1i hm (lY hq.1 zo hf) | exact u1l hm (lY hq.1 zo hf)), (by first | omega | (simp only [kR, kQ, ka4, kb2, kb5] <;> omega)), (by first | assumption | exact hN.snoc zo), (by first | assumption | exact hW.snoc (ke8 (mK _) zo))⟩⟩ [(6, 8)] (P := (kM 0) ∧ (kM 0) ∧ (kM 0) ∧ ((((((1 + (kB (uZ kJ (kH l) 4) 3)) : Nat) : Int) - (((i2 + 1) : Nat) : Int)) : Int) = (((((1 + (kB (uZ kJ (kH l) 4) 3)) : Nat) : Int) - (i2 : Int)) - 1)) ∧ (([db (i0 (uQ l) (i2 + 1)) (ka1 (i0 (uQ l) (i2 + 1)))] : List D) = [db (kA (kI l i2) 7) (ka1 (kA (kI l i2) 7))]) ∧ (k8 [iD 0, qH, qH, qH]) ∧ (kN y) ∧ (k8 (dI .i64 (yD l))) ∧ (kM (yG (y3 qF (qE l) 5) (y1 qF (qE l) 5))) ∧ (kM 0) ∧ (kM (q + 1)) ∧ (k8 (dI .i64 (yK l))) ∧ (kM (yG (y3 kJ (kH l) 4) (y1 kJ (kH l) 4))) ∧ (k8 (qA (ms ++ ([(uL (kI l i2))] : List (List Int)))))) zk ⟨rfl, rfl, rfl, aZ, (by first | rfl | with_reducible assumption), rfl, rfl, rfl, rfl, rfl, rfl, rfl, rfl, rfl⟩ (show 1 + kB (uZ kJ (kH l) 4) 3 - (i2 + 1) < 1 + kB (uZ kJ (kH l) 4) 3 - i2 from cW)
  ·refine kK [.no, .b false] (¬ ((0 : Int) < ((((1 + (kB (uZ kJ (kH l) 4) 3)) : Nat) : Int) - (i2 : Int)))) [(0, rV 0 0), (2, rV 1 0), (3, rV 2 0), (5, iV ((((1 + (kB (uZ kJ (kH l) 4) 3)) : Nat) : Int) - ↑i2)), (50, bV false)] [(0, some (66, .ds [db (kI l i2) (ka1 (kI l i2))])), (1, some (78, uB)), (2, some (78, (yT y l q))), (6, some (63, .ds (qA ms)))] 7 zo ?_
   refine zf ?_
   refine AW.exit ?_
   refine kK [.no, .no] True [(2, rV 1 0)] [(0, some (66, .ds [db (kI l i2) (ka1 (kI l i2))])), (1, some (78, (yT y l q))), (6, some (63, .ds (qA ms)))] 7 trivial ?_
   obtain rfl : i2 = (1 + (kB (uZ kJ (kH l) 4) 3)) := (by omega)
   refine AW.freeze 6 (l' := [(2, rV 1 0)]) (g' := [(0, some (66, .ds [db (i0 (uQ l) (1 + (kB (uZ kJ (kH l) 4) 3))) (ka1 (i0 (uQ l) (1 + (kB (uZ kJ (kH l) 4) 3))))])), (1, some (78, .ds [iD y, dl (yD l) (yG (y3 qF (qE l) 5) (y1 qF (qE l) 5)), D.sl (qA ms) q, dl (yK l) (yG (y3 kJ (kH l) 4) (y1 kJ (kH l) 4))]))]) rfl (FzS.cons rfl (.same _) FzS.nil) (uP rfl rfl (FzG.to (bc := .cs [iC y, .d (dl (yD l) (yG (y3 qF (qE l) 5) (y1 qF (qE l) 5))), .own 6 0 q 1 true, .d (dl (yK l) (yG (y3 kJ (kH l) 4) (y1 kJ (kH l) 4)))]) rfl (by rfl) (FzL.cons (.same _) (FzL.cons (.same _) (FzL.cons (@FzC.own 6 ((qA ms) : List D) 0 q 1 true ((qA ms) : List D) (by rw [List.drop_zero, kc3, kc2 (by first | omega | (simp only [kR, kQ, qJ, ka4, kb2, kb5, kb3, kb1, kb4, kc4, kd0, kc8, kc3] <;> omega))]) a2) (FzL.cons (.same _) FzL.nil)))) FzG.nil)) ?_
   have hz1 : pV l = y := hy
   have hz2 : fT l = ms := hm
   refine AW.ret ?_
   exact kC (.inr rfl) [] (P := (((pV l) : Int) = y) ∧ (((dI .i64 (pU l)) : List D) = (dI .i64 (yD l))) ∧ (((nY l) : Nat) = (yG (y3 qF (qE l) 5) (y1 qF (qE l) 5))) ∧ (((qA (fT l)) : List D) = (qA ms)) ∧ (((ka1 (fT l)) : Nat) = q) ∧ (((dI .i64 (pT l)) : List D) = (dI .i64 (yK l))) ∧ (((nX l) : Nat) = (yG (y3 kJ (kH l) 4) (y1 kJ (kH l) 4))) ∧ (([db (zJ l) (ka1 (zJ l))] : List D) = [db (i0 (uQ l) (1 + (kB (uZ kJ (kH l) 4) 3))) (ka1 (i0 (uQ l) (1 + (kB (uZ kJ (kH l) 4) 3))))])) zk ⟨(by first | rfl | exact hz1 | (rw [hz2]; omega) | omega), (by first | rfl | (rw [hz2]; done) | (rw [hz2]; rfl)), (by first | rfl | exact hz1 | (rw [hz2]; omega) | omega), (by first | rfl | (rw [hz2]; done) | (rw [hz2]; rfl)), (by first | rfl | exact hz1 | (rw [hz2]; omega) | omega), (by first | rfl | (rw [hz2]; done) | (rw [hz2]; rfl)), (by first | rfl | exact hz1 | (rw [hz2]; omega) | omega), (by first | rfl | (rw [hz2]; done) | (rw [hz2]; rfl))⟩
end Go.Proofs.Ytalbpleglapihaa
