/- Boxes out of dice. No statement is proved here. -/
import Derived.Test.YtalbpleglapihaaZL10E
namespace Go.Proofs.Ytalbpleglapihaa
open Go.ChangeShapes Go.WideShapes Go.ChangeAt Go.RowKit
set_option linter.unusedVariables false
set_option linter.unusedSimpArgs false
set_option maxHeartbeats 4000000
set_option maxRecDepth 100000
theorem k4c (xs : List (List Int)) (i : Nat) (h : i < xs.length) : (k9 xs)[i]? = some (D.sl (dI .i64 (List.getD xs i [])) (List.getD xs i []).length) := by
 have := eO xs i h
 rw [List.getElem?_drop, Nat.add_zero] at this; exact this
def kbV (l : List Int) : Int := IntKind.i64.wrap (1 * (((2 ^ (1 + (kB l 7))) : Nat) : Int))
def zE (a b : Int) : Int := qN .or .i64 a b
def aR (l : List Int) : Nat → List Int
 | 0 => l
 | i + 1 => kA (aR l i) 7
def knK (l : List Int) (k : Int) : Nat → Int
 | 0 => k
 | i + 1 => zE (knK l k i) (kbV (aR l i))
theorem yU {l : List Int} (h : Byt l) : ∀ i, Byt (aR l i)
 | 0 => h
 | i + 1 => kF _ (yU h i)
def thE (x m : List Int) : Bool := decide (List.length x = List.length m ∧ List.getD x 0 0 = List.getD m 0 0)
def iM (ms : List (List Int)) (m : List Int) : Bool := ms.any fun x => thE x m
theorem u3f (ms : List (List Int)) (m : List Int) : iM (List.take 0 ms) m = false := rfl
theorem lO {ms : List (List Int)} {m : List Int} {j : Nat} (h : j < ms.length) : iM (List.take (j + 1) ms) m = (iM (List.take j ms) m || thE (List.getD ms j []) m) := by
 unfold iM
 rw [List.getD_eq_getElem?_getD, List.getElem?_eq_getElem h, List.take_succ_eq_append_getElem h, List.any_append]
 simp
theorem k3t {ms : List (List Int)} {m : List Int} {j : Nat} (h : j < ms.length) (h1 : iM (List.take j ms) m = true) : iM (List.take (j + 1) ms) m = true := by
 rw [lO h, h1]; rfl
theorem k3v {ms : List (List Int)} {m : List Int} {j : Nat} (h : j < ms.length) (h1 : List.length (List.getD ms j []) = List.length m ∧ List.getD (List.getD ms j []) 0 0 = List.getD m 0 0) : iM (List.take (j + 1) ms) m = true := by
 rw [lO h, show thE (List.getD ms j []) m = true from decide_eq_true h1, Bool.or_true]
theorem k3u {ms : List (List Int)} {m : List Int} {j : Nat} (h : j < ms.length) (h0 : iM (List.take j ms) m = false) (h1 : ¬ (List.length (List.getD ms j []) = List.length m ∧ List.getD (List.getD ms j []) 0 0 = List.getD m 0 0)) : iM (List.take (j + 1) ms) m = false := by
 rw [lO h, h0, show thE (List.getD ms j []) m = false from decide_eq_false h1]; rfl
def iQ (l : List Int) : Nat → List Int
 | 0 => l
 | i + 1 => kA (iQ l i) 7
def iP (l : List Int) : Nat → List (List Int)
 | 0 => []
 | i + 1 => if iM (iP l i) (uL (iQ l i)) = true then iP l i else iP l i ++ [uL (iQ l i)]
theorem dF {l : List Int} (h : Byt l) : ∀ i, Byt (iQ l i)
 | 0 => h
 | i + 1 => kF _ (dF h i)
theorem u17 {l : List Int} {i : Nat} {ms : List (List Int)} (h : iP l i = ms) (h1 : iM ms (uL (iQ l i)) = true) : iP l (i + 1) = ms := by
 subst h; exact if_pos h1
theorem u1a {l : List Int} {i : Nat} {ms : List (List Int)} (h : iP l i = ms) (h1 : iM ms (uL (iQ l i)) = false) : iP l (i + 1) = ms ++ [uL (iQ l i)] := by
 subst h; exact if_neg (by rw [h1]; decide)
theorem u3u {l : List Int} {k : Int} {i : Nat} {y x : Int} (h : knK l k i = y) (hx : x = zE y (kbV (aR l i))) : knK l k (i + 1) = x := by
 subst h; rw [hx]; rfl
theorem lP {ms : List (List Int)} {m : List Int} {j c : Nat} {f : Bool} (hc : ms.length = c) (hj : c ≤ j) (h : iM (List.take j ms) m = f) : iM ms m = f := by
 rw [List.take_of_length_le (by omega)] at h; exact h
theorem k0r (l : List Int) : ∀ i, MsW (iP l i)
 | 0 => MsW.nil
 | i + 1 => by
  rw [iP]; split
  ·exact k0r l i
  ·exact (k0r l i).snoc (Nat.le_trans (mA _) (by omega))
theorem r9 (l : List Int) : ∀ i, List.length (iP l i) ≤ i
 | 0 => Nat.le_refl _
 | i + 1 => by
  have := r9 l i
  rw [iP]; split
  ·omega
  ·rw [List.length_append, List.length_singleton]; omega
def bo1 (l : List Int) : List Int := kA (kA l 7) 3
def bo2 (l : List Int) : List Int := aR (bo1 l) (kB (kA l 7) 3)
def rtT : List Int := [44100, 44100, 48000, 48000, 8000, 8000, 32000, 50000, 96000, 192000]
def szT : List Int := [16, 64, 64, 1024, 2048, 2048, 1, 65536]
def bo3 (l : List Int) : List Int := uY rtT (bo2 l) 5
def bo4 (l : List Int) : List Int := uY szT (bo3 l) 4
def bo5 (l : List Int) : List Int := kA (bo4 l) 3
def boN (l : List Int) : Nat := 1 + kB (bo4 l) 3
def x7 (l : List Int) : List Int := iQ (bo5 l) (boN l)
def pR (l : List Int) : Int := knK (bo1 l) (kbV l) (kB (kA l 7) 3)
def pQ (l : List Int) : List Int := bF (y2 rtT (bo2 l) 5) (yY rtT (bo2 l) 5)
def nU (l : List Int) : Nat := yF (y2 rtT (bo2 l) 5) (yY rtT (bo2 l) 5)
def pP (l : List Int) : List Int := bF (y2 szT (bo3 l) 4) (yY szT (bo3 l) 4)
def nT (l : List Int) : Nat := yF (y2 szT (bo3 l) 4) (yY szT (bo3 l) 4)
def fJ (l : List Int) : List (List Int) := iP (bo5 l) (boN l)
def MsN (xs : List (List Int)) : Prop := ∀ l ∈ xs, 1 ≤ List.length l
theorem MsN.nil : MsN [] := fun l h => by cases h
theorem MsN.snoc {xs : List (List Int)} {l : List Int} (h : MsN xs) (hl : 1 ≤ List.length l) : MsN (xs ++ [l]) := fun m hm => (List.mem_append.1 hm).elim (h m) fun hm => by
 rw [List.mem_singleton.1 hm]; exact hl
theorem MsN.at {xs : List (List Int)} (h : MsN xs) {i : Nat} (hi : i < xs.length) : 1 ≤ List.length (List.getD xs i []) := by
 rw [List.getD_eq_getElem?_getD, List.getElem?_eq_getElem hi]; exact h _ (List.getElem_mem hi)
attribute [local irreducible] y2 uY yY bF yF kB kA uL iM
abbrev qE := ([44100, 44100, 48000, 48000, 8000, 8000, 32000, 50000, 96000, 192000] : List Int)
abbrev qD (l : List Int) := aR (kA (kA l 7) 3) (kB (kA l 7) 3)
abbrev kH (l : List Int) := uY qE (qD l) 5
abbrev kJ := ([16, 64, 64, 1024, 2048, 2048, 1, 65536] : List Int)
abbrev uP (l : List Int) := kA (uY kJ (kH l) 4) 3
abbrev kI (l : List Int) (i2 : Nat) := iQ (uP l) i2
abbrev yC (l : List Int) := bF (y2 qE (qD l) 5) (yY qE (qD l) 5)
abbrev yI (l : List Int) := bF (y2 kJ (kH l) 4) (yY kJ (kH l) 4)
theorem v8 {p : Prop} (h : p := by first | omega | assumption | simp) : p := h
theorem aX {p : Prop} (h : p := by first | rfl | omega | assumption | (simp; done) | (simp; omega)) : p := h
theorem cP {p : Prop} (h : p := by first | omega | (show _ < _; simp; omega)) : p := h
theorem aY {p : Prop} (h : p := by first | omega | (simp only [kR, kQ, qL, List.length_append, List.length_cons, List.length_nil, List.length_take, List.length_drop, List.length_replicate, List.length_set, List.length_map, List.length_reverse, Nat.mul_one] <;> omega) | rfl) : p := h
theorem f5 {p : Prop} (h : p := by first | rfl | assumption | simp) : p := h
abbrev yR (y : Int) (l : List Int) (q : Nat) : BC := .cs [iC y, .d (D.sl (dI .i64 (yC l)) (yF (y2 qE (qD l) 5) (yY qE (qD l) 5))), .own 6 0 q 1 true, .d (D.sl (dI .i64 (yI l)) (yF (y2 kJ (kH l) 4) (yY kJ (kH l) 4)))]
abbrev uA : BC := .ds [iD 0, D.lit (.slice none 0 0), D.lit (.slice none 0 0), D.lit (.slice none 0 0)]
abbrev yL (l : List Int) (i2 : Nat) : BC := .ds [D.sl (dI .u8 (kA (kI l i2) 7)) (List.length (kA (kI l i2) 7))]
abbrev fL (l : List Int) (i : Nat) : BC := .ds [D.sl (dI .u8 (aR (kA (kA l 7) 3) i)) (List.length (aR (kA (kA l 7) 3) i))]
abbrev fK (y : Int) : BC := .ds [iD y, D.lit (.slice none 0 0), D.lit (.slice none 0 0), D.lit (.slice none 0 0)]
theorem u2i (l : List Int) (hb : Byt l) : Fun 46 [.c (.ptr 0 0)] (kG [(0, some (66, .ds [D.sl (dI .u8 l) (List.length l)]))]) 1 (.e (.agg [iC (pR l), .d (D.sl (dI .i64 (pQ l)) (nU l)), .d (D.sl (k9 (fJ l)) (List.length (fJ l))), .d (D.sl (dI .i64 (pP l)) (nT l))])) (kG [(0, some (66, .ds [D.sl (dI .u8 (x7 l)) (List.length (x7 l))]))]) 1 := by
 refine Fun.mk (n := 89) Try.func46 rfl rfl (Nat.le_of_ble_eq_true rfl) ?_
 intro cx hcx
 refine kK [.no] True [(0, rV 0 0), (2, rV 1 0)] [(0, some (66, .ds [db l (List.length l)])), (1, some (78, uA))] 2 trivial ?_
 have hx1 : ((((((kB l 7) : Nat) : Int) < 7) ∨ ((kB l 7) = 0)) ∧ ((kB l 7) ≤ 255)) := kO l (7 : Int) (kS : Byt l)
 have hx2 : (Byt (kA l 7)) := kF (7 : Int) (kS : Byt l)
 refine kK [.no, .call [0] (uV (kB l 7)) [(0, some (66, .ds [db (kA l 7) (List.length (kA l 7))]))] 1 [] none, .w, .n2 (1 + (kB l 7)) 0, .no, .no, .no] ((_) ∧ (qM (1 + (kB l 7 : Int))) ∧ (((1 + (kB l 7 : Int)) : Int) = (((1 + (kB l 7)) : Nat) : Int)) ∧ ((1 + (kB l 7)) ≤ 64)) [(0, rV 0 0), (2, rV 1 0), (3, rV 2 0)] [(0, some (66, .ds [db (kA l 7) (List.length (kA l 7))])), (1, some (78, uA)), (2, some (78, .ds [iD (IntKind.i64.wrap (1 * (((2 ^ (1 + (kB l 7))) : Nat) : Int))), qI, qI, qI]))] 3 ⟨(qW l 7 (kS : Byt l)), ⟨by omega, by omega⟩, (by first | rfl | omega), zo⟩ ?_
 refine AW.seq ?_
 have hx3 : ((((((kB (kA l 7) 3) : Nat) : Int) < 3) ∨ ((kB (kA l 7) 3) = 0)) ∧ ((kB (kA l 7) 3) ≤ 255)) := kO (kA l 7) (3 : Int) (kS : Byt (kA l 7))
 have hx4 : (Byt (kA (kA l 7) 3)) := kF (3 : Int) (kS : Byt (kA l 7))
 refine kK [.no, .call [0] (uV (kB (kA l 7) 3)) [(0, some (66, .ds [db (kA (kA l 7) 3) (List.length (kA (kA l 7) 3))]))] 1 [] none, .no] _ [(0, rV 0 0), (2, rV 1 0), (3, rV 2 0), (4, uV (kB (kA l 7) 3))] [(0, some (66, .ds [db (kA (kA l 7) 3) (List.length (kA (kA l 7) 3))])), (1, some (78, uA)), (2, some (78, .ds [iD (IntKind.i64.wrap (1 * (((2 ^ (1 + (kB l 7))) : Nat) : Int))), qI, qI, qI]))] 3 (qW (kA l 7) 3 (kS : Byt (kA l 7))) ?_
 refine AW.block ?_
 refine kW 1 hcx (fun (x : {x : Nat × Int // match x with | (i, y) => (i ≤ kB (kA l 7) 3) ∧ (knK (kA (kA l 7) 3) (kbV l) i = y)}) => match x with | ⟨(i, y), _⟩ => (⟨[(0, rV 0 0), (2, rV 1 0), (3, rV 2 0), (4, iV ((kB (kA l 7) 3 : Int) - (i : Int)))], [(0, some (66, (fL l i))), (1, some (78, uA)), (2, some (78, (fK y)))], 3⟩ : ES)) (fun x => match x with | ⟨(i, y), _⟩ => kB (kA l 7) 3 - i) ⟨((0 : Nat), ((IntKind.i64.wrap (1 * (((2 ^ (1 + (kB l 7))) : Nat) : Int))) : Int)), ⟨v8, rfl⟩⟩ [] (P := (kM 0) ∧ (kM 0) ∧ (kM 0) ∧ ((((kB (kA l 7) 3 : Int) - 0) : Int) = (kB (kA l 7) 3 : Int)) ∧ (([db (aR (kA (kA l 7) 3) 0) (List.length (aR (kA (kA l 7) 3) 0))] : List D) = [db (kA (kA l 7) 3) (List.length (kA (kA l 7) 3))]) ∧ (k8 [iD 0, qI, qI, qI]) ∧ (k8 [iD (IntKind.i64.wrap (1 * (((2 ^ (1 + (kB l 7))) : Nat) : Int))), qI, qI, qI])) zk ⟨rfl, rfl, rfl, aX, (by first | rfl | with_reducible assumption | (simp only [u5, qT, qK]; rfl) | (congr 1; first | assumption | (simp; done) | omega)), rfl, rfl⟩ ?_
 rintro ⟨⟨i, y⟩, hinv0⟩
 obtain ⟨hi, hy⟩ : (i ≤ kB (kA l 7) 3) ∧ (knK (kA (kA l 7) 3) (kbV l) i = y) := hinv0
 refine uI (l := [(0, rV 0 0), (2, rV 1 0), (3, rV 2 0), (4, iV ((kB (kA l 7) 3 : Int) - (i : Int)))]) (g := [(0, some (66, (fL l i))), (1, some (78, uA)), (2, some (78, (fK y)))]) (nx := 3) rfl rfl rfl ?_
 refine AW.seq ?_
 by_cases hx5 : ((0 : Int) < ((((kB (kA l 7) 3) : Nat) : Int) - ((i : Nat) : Int)))
 ·refine kK [.no, .b true] (((0 : Int) < ((kB (kA l 7) 3 : Int) - (i : Int)))) [(0, rV 0 0), (2, rV 1 0), (3, rV 2 0), (4, iV ((kB (kA l 7) 3 : Int) - ↑i)), (18, bV true)] [(0, some (66, (fL l i))), (1, some (78, uA)), (2, some (78, (fK y)))] 3 zo ?_
  refine vC ?_
  refine AW.seq ?_
  refine AW.block ?_
  have hx6 : ((((((kB (aR (kA (kA l 7) 3) i) 7) : Nat) : Int) < 7) ∨ ((kB (aR (kA (kA l 7) 3) i) 7) = 0)) ∧ ((kB (aR (kA (kA l 7) 3) i) 7) ≤ 255)) := kO (aR (kA (kA l 7) 3) i) (7 : Int) ((yU (kS : Byt (kA (kA l 7) 3)) _))
  have hx7 : (Byt (kA (aR (kA (kA l 7) 3) i) 7)) := kF (7 : Int) ((yU (kS : Byt (kA (kA l 7) 3)) _))
  refine aV [.no, .no, .no, .call [0] (iV (kB (aR (kA (kA l 7) 3) i) 7 : Int)) [(0, some (66, .ds [db (kA (aR (kA (kA l 7) 3) i) 7) (List.length (kA (aR (kA (kA l 7) 3) i) 7))]))] 1 [] none, .w, .n2 (1 + (kB (aR (kA (kA l 7) 3) i) 7)) 0, .i (zE y (IntKind.i64.wrap (1 * (((2 ^ (1 + (kB (aR (kA (kA l 7) 3) i) 7))) : Nat) : Int)))), .no, .no] ((_) ∧ ((-9223372036854775808) ≤ (1 + (kB (aR (kA (kA l 7) 3) i) 7 : Int)) ∧ (1 + (kB (aR (kA (kA l 7) 3) i) 7 : Int)) ≤ 9223372036854775807) ∧ (((1 + (kB (aR (kA (kA l 7) 3) i) 7 : Int)) : Int) = (((1 + (kB (aR (kA (kA l 7) 3) i) 7)) : Nat) : Int)) ∧ ((1 + (kB (aR (kA (kA l 7) 3) i) 7)) ≤ 64) ∧ (qN .or .i64 y (IntKind.i64.wrap (1 * (((2 ^ (1 + (kB (aR (kA (kA l 7) 3) i) 7))) : Nat) : Int))) = (zE y (IntKind.i64.wrap (1 * (((2 ^ (1 + (kB (aR (kA (kA l 7) 3) i) 7))) : Nat) : Int)))))) [(0, rV 0 0), (2, rV 1 0), (3, rV 2 0), (4, iV ((kB (kA l 7) 3 : Int) - ↑i))] [(0, some (66, .ds [db (kA (aR (kA (kA l 7) 3) i) 7) (List.length (kA (aR (kA (kA l 7) 3) i) 7))])), (1, some (78, uA)), (2, some (78, .ds [iD (zE y (IntKind.i64.wrap (1 * (((2 ^ (1 + (kB (aR (kA (kA l 7) 3) i) 7))) : Nat) : Int)))), qI, qI, qI]))] 3 ⟨(qW (aR (kA (kA l 7) 3) i) 7 (yU (kS : Byt (kA (kA l 7) 3)) _)), ⟨by omega, by omega⟩, (by first | rfl | omega), zo, rfl⟩ ?_
  refine yG [.no, .w, .no] (qM (((kB (kA l 7) 3 : Int) - (i : Int)) - 1)) [(0, rV 0 0), (2, rV 1 0), (3, rV 2 0), (4, iV (((kB (kA l 7) 3 : Int) - ↑i) - 1))] ⟨by omega, by omega⟩ ?_
  exact qR ⟨(((i + 1) : Nat), ((zE y (IntKind.i64.wrap (1 * (((2 ^ (1 + (kB (aR (kA (kA l 7) 3) i) 7))) : Nat) : Int)))) : Int)), ⟨v8, (u3u hy rfl)⟩⟩ [] (P := (kM 0) ∧ (kM 0) ∧ (kM 0) ∧ ((((kB (kA l 7) 3 : Int) - (((i + 1) : Nat) : Int)) : Int) = (((kB (kA l 7) 3 : Int) - (i : Int)) - 1)) ∧ (([db (aR (kA (kA l 7) 3) (i + 1)) (List.length (aR (kA (kA l 7) 3) (i + 1)))] : List D) = [db (kA (aR (kA (kA l 7) 3) i) 7) (List.length (kA (aR (kA (kA l 7) 3) i) 7))]) ∧ (k8 [iD 0, qI, qI, qI]) ∧ (k8 [iD (zE y (IntKind.i64.wrap (1 * (((2 ^ (1 + (kB (aR (kA (kA l 7) 3) i) 7))) : Nat) : Int)))), qI, qI, qI])) zk ⟨rfl, rfl, rfl, aX, (by first | rfl | with_reducible assumption | (simp only [u5, qT, qK]; rfl) | (congr 1; first | assumption | (simp; done) | omega)), rfl, rfl⟩ (show kB (kA l 7) 3 - (i + 1) < kB (kA l 7) 3 - i from cP)
 ·refine kK [.no, .b false] (¬ ((0 : Int) < ((kB (kA l 7) 3 : Int) - (i : Int)))) [(0, rV 0 0), (2, rV 1 0), (3, rV 2 0), (4, iV ((kB (kA l 7) 3 : Int) - ↑i)), (18, bV false)] [(0, some (66, (fL l i))), (1, some (78, uA)), (2, some (78, (fK y)))] 3 zo ?_
  refine zf ?_
  refine AW.exit ?_
  obtain rfl : i = (kB (kA l 7) 3) := (by omega)
  refine kK (kU 6 [(.fz (.no)), .call [0] (.e (.agg [.d (dl (yC l) (yF (y2 qE (qD l) 5) (yY qE (qD l) 5)))])) [(0, some (66, .ds [db (kH l) (List.length (kH l))]))] 1 [] none, .no, .no]) ((([iD 44100, iD 44100, iD 48000, iD 48000, iD 8000, iD 8000, iD 32000, iD 50000, iD 96000, iD 192000] : List D).length = 5 * 2) ∧ (_)) [(0, rV 0 0), (2, rV 1 0), (3, rV 2 0)] [(0, some (66, .ds [db (kH l) (List.length (kH l))])), (1, some (78, uA)), (2, some (78, .ds [iD y, dl (yC l) (yF (y2 qE (qD l) 5) (yY qE (qD l) 5)), qI, qI]))] 4 ⟨aY, (k7a qE 5 (qD l) (by first | omega | with_reducible assumption | (simp only [kR, kQ, List.length_append, List.length_cons, List.length_nil, List.length_take, List.length_drop, List.length_replicate, List.length_set] <;> omega) | rfl | assumption) zo zo (yU (kS : Byt (kA (kA l 7) 3)) _))⟩ ?_
  refine kK (kU 5 [(.fz (.no)), .call [0] (.e (.agg [.d (dl (yI l) (yF (y2 kJ (kH l) 4) (yY kJ (kH l) 4)))])) [(0, some (66, .ds [db (uY kJ (kH l) 4) (List.length (uY kJ (kH l) 4))]))] 1 [] none, .no, .no]) ((([iD 16, iD 64, iD 64, iD 1024, iD 2048, iD 2048, iD 1, iD 65536] : List D).length = 4 * 2) ∧ (_)) [(0, rV 0 0), (2, rV 1 0), (3, rV 2 0)] [(0, some (66, .ds [db (uY kJ (kH l) 4) (List.length (uY kJ (kH l) 4))])), (1, some (78, uA)), (2, some (78, .ds [iD y, dl (yC l) (yF (y2 qE (qD l) 5) (yY qE (qD l) 5)), qI, dl (yI l) (yF (y2 kJ (kH l) 4) (yY kJ (kH l) 4))]))] 5 ⟨aY, (k7a kJ 4 (kH l) (by first | omega | with_reducible assumption | (simp only [kR, kQ, List.length_append, List.length_cons, List.length_nil, List.length_take, List.length_drop, List.length_replicate, List.length_set] <;> omega) | rfl | assumption) zo zo (y5 (yU (kS : Byt (kA (kA l 7) 3)) _)))⟩ ?_
  refine AW.seq ?_
  have hx8 : ((((((kB (uY kJ (kH l) 4) 3) : Nat) : Int) < 3) ∨ ((kB (uY kJ (kH l) 4) 3) = 0)) ∧ ((kB (uY kJ (kH l) 4) 3) ≤ 255)) := kO (uY kJ (kH l) 4) (3 : Int) ((y5 (y5 (yU (kS : Byt (kA (kA l 7) 3)) _))))
  have hx9 : (Byt (uP l)) := kF (3 : Int) ((y5 (y5 (yU (kS : Byt (kA (kA l 7) 3)) _))))
  refine kK [.no, .call [0] (uV (kB (uY kJ (kH l) 4) 3)) [(0, some (66, .ds [db (uP l) (List.length (uP l))]))] 1 [] none, .w, .no] ((_) ∧ (qM (1 + (kB (uY kJ (kH l) 4) 3 : Int)))) [(0, rV 0 0), (2, rV 1 0), (3, rV 2 0), (5, iV (1 + (kB (uY kJ (kH l) 4) 3 : Int)))] [(0, some (66, .ds [db (uP l) (List.length (uP l))])), (1, some (78, uA)), (2, some (78, .ds [iD y, dl (yC l) (yF (y2 qE (qD l) 5) (yY qE (qD l) 5)), qI, dl (yI l) (yF (y2 kJ (kH l) 4) (yY kJ (kH l) 4))]))] 5 ⟨(qW (uY kJ (kH l) 4) 3 (y5 (y5 (yU (kS : Byt (kA (kA l 7) 3)) _)))), ⟨by omega, by omega⟩⟩ ?_
  refine AW.block ?_
  refine j4 2 2 1 63 (cs' := [iC y, .d (dl (yC l) (yF (y2 qE (qD l) 5) (yY qE (qD l) 5))), .own 5 0 0 1 true, .d (dl (yI l) (yF (y2 kJ (kH l) 4) (yY kJ (kH l) 4)))]) rfl rfl rfl ?_
  refine kW 1 hcx (fun (x : {x : Nat × Nat × List (List Int) // match x with | (i2, q, ms) => (i2 ≤ 1 + kB (uY kJ (kH l) 4) 3) ∧ (iP (uP l) i2 = ms) ∧ (List.length ms = q ∧ q ≤ i2) ∧ (MsN ms) ∧ (MsW ms)}) => match x with | ⟨(i2, q, ms), _⟩ => (⟨[(0, rV 0 0), (2, rV 1 0), (3, rV 2 0), (5, iV ((((1 + (kB (uY kJ (kH l) 4) 3)) : Nat) : Int) - (i2 : Int)))], [(0, some (66, .ds [db (kI l i2) (List.length (kI l i2))])), (1, some (78, uA)), (2, some (78, (yR y l q))), (6, some (63, .ds (k9 ms)))], 7⟩ : ES)) (fun x => match x with | ⟨(i2, q, ms), _⟩ => 1 + kB (uY kJ (kH l) 4) 3 - i2) ⟨((0 : Nat), (0 : Nat), (([] : List (List Int)) : List (List Int))), ⟨v8, rfl, ⟨rfl, by omega⟩, MsN.nil, MsW.nil⟩⟩ [(6, 5)] (P := (kM 0) ∧ (kM 0) ∧ (kM 0) ∧ ((((((1 + (kB (uY kJ (kH l) 4) 3)) : Nat) : Int) - 0) : Int) = (1 + (kB (uY kJ (kH l) 4) 3 : Int))) ∧ (([db (iQ (uP l) 0) (List.length (iQ (uP l) 0))] : List D) = [db (uP l) (List.length (uP l))]) ∧ (k8 [iD 0, qI, qI, qI]) ∧ (kN y) ∧ (k8 (dI .i64 (yC l))) ∧ (kM (yF (y2 qE (qD l) 5) (yY qE (qD l) 5))) ∧ (kM 0) ∧ (kM 0) ∧ (k8 (dI .i64 (yI l))) ∧ (kM (yF (y2 kJ (kH l) 4) (yY kJ (kH l) 4))) ∧ (((k9 ([] : List (List Int))) : List D) = ([] : List D))) zk ⟨rfl, rfl, rfl, aX, (by first | rfl | with_reducible assumption), rfl, rfl, rfl, rfl, rfl, rfl, rfl, rfl, (by first | rfl | with_reducible assumption)⟩ ?_
  rintro ⟨⟨i2, q, ms⟩, hinv1⟩
  obtain ⟨hi2, hm, hq, hN, hW⟩ : (i2 ≤ 1 + kB (uY kJ (kH l) 4) 3) ∧ (iP (uP l) i2 = ms) ∧ (List.length ms = q ∧ q ≤ i2) ∧ (MsN ms) ∧ (MsW ms) := hinv1
  refine uI (l := [(0, rV 0 0), (2, rV 1 0), (3, rV 2 0), (5, iV ((((1 + (kB (uY kJ (kH l) 4) 3)) : Nat) : Int) - (i2 : Int)))]) (g := [(0, some (66, .ds [db (kI l i2) (List.length (kI l i2))])), (1, some (78, uA)), (2, some (78, (yR y l q))), (6, some (63, .ds (k9 ms)))]) (nx := 7) rfl rfl rfl ?_
  refine AW.seq ?_
  by_cases hx10 : ((0 : Int) < ((((1 + (kB (uY kJ (kH l) 4) 3)) : Nat) : Int) - ((i2 : Nat) : Int)))
  ·refine kK [.no, .b true] (((0 : Int) < ((((1 + (kB (uY kJ (kH l) 4) 3)) : Nat) : Int) - (i2 : Int)))) [(0, rV 0 0), (2, rV 1 0), (3, rV 2 0), (5, iV ((((1 + (kB (uY kJ (kH l) 4) 3)) : Nat) : Int) - ↑i2)), (50, bV true)] [(0, some (66, .ds [db (kI l i2) (List.length (kI l i2))])), (1, some (78, uA)), (2, some (78, (yR y l q))), (6, some (63, .ds (k9 ms)))] 7 zo ?_
   refine vC ?_
   refine AW.seq ?_
   refine AW.block ?_
   have hx11 : (((1 : Nat) ≤ (List.length (uL (kI l i2)))) ∧ ((List.length (uL (kI l i2))) ≤ 6)) := (k4f ((dF (kS : Byt (uP l)) _)))
   refine kK [.no, .call [0] (sV .i64 (uL (kI l i2)) (List.length (uL (kI l i2)))) [(0, some (66, (yL l i2)))] 1 [] none, .no] _ [(0, rV 0 0), (2, rV 1 0), (3, rV 2 0), (5, iV ((((1 + (kB (uY kJ (kH l) 4) 3)) : Nat) : Int) - ↑i2)), (6, sV .i64 (uL (kI l i2)) (List.length (uL (kI l i2))))] [(0, some (66, (yL l i2))), (1, some (78, uA)), (2, some (78, (yR y l q))), (6, some (63, .ds (k9 ms)))] 7 (u2j (kI l i2) (dF (kS : Byt (uP l)) _)) ?_
   refine kX [.no] True [(0, rV 0 0), (2, rV 1 0), (3, rV 2 0), (5, iV ((((1 + (kB (uY kJ (kH l) 4) 3)) : Nat) : Int) - ↑i2)), (6, sV .i64 (uL (kI l i2)) (List.length (uL (kI l i2)))), (7, bV false)] trivial ?_
   refine AW.seq ?_
   refine kX (kU 4 []) True [(0, rV 0 0), (2, rV 1 0), (3, rV 2 0), (5, iV ((((1 + (kB (uY kJ (kH l) 4) 3)) : Nat) : Int) - ↑i2)), (6, sV .i64 (uL (kI l i2)) (List.length (uL (kI l i2)))), (7, bV false), (56, oV 6 0 q 1), (57, uV q), (58, iV 0)] trivial ?_
   refine AW.block ?_
   refine kW 1 hcx (fun (x : {x : Nat × Bool // match x with | (j, f) => (j ≤ q) ∧ (iM (List.take j ms) (uL (kI l i2)) = f)}) => match x with | ⟨(j, f), _⟩ => (⟨[(0, rV 0 0), (2, rV 1 0), (3, rV 2 0), (5, iV ((((1 + (kB (uY kJ (kH l) 4) 3)) : Nat) : Int) - (i2 : Int))), (6, sV .i64 (uL (kI l i2)) (List.length (uL (kI l i2)))), (7, kP (D.lit (.bool (f)))), (56, oV 6 0 q 1), (57, uV q), (58, uV j)], [(0, some (66, (yL l i2))), (1, some (78, uA)), (2, some (78, (yR y l q))), (6, some (63, .ds (k9 ms)))], 7⟩ : ES)) (fun x => match x with | ⟨(j, f), _⟩ => q - j) ⟨((0 : Nat), (false : Bool)), ⟨v8, (u3f _ _)⟩⟩ [] (P := (kM 0) ∧ (kM 0) ∧ (kM 0) ∧ (kN ((((1 + (kB (uY kJ (kH l) 4) 3)) : Nat) : Int) - (i2 : Int))) ∧ (k8 (dI .i64 (uL (kI l i2)))) ∧ (kM (List.length (uL (kI l i2)))) ∧ ((false) = false) ∧ (kM 0) ∧ (kM q) ∧ (kN (q : Int)) ∧ (kN 0) ∧ (k8 [db (kA (kI l i2) 7) (List.length (kA (kI l i2) 7))]) ∧ (k8 [iD 0, qI, qI, qI]) ∧ (kN y) ∧ (k8 (dI .i64 (yC l))) ∧ (kM (yF (y2 qE (qD l) 5) (yY qE (qD l) 5))) ∧ (kM 0) ∧ (kM q) ∧ (k8 (dI .i64 (yI l))) ∧ (kM (yF (y2 kJ (kH l) 4) (yY kJ (kH l) 4))) ∧ (k8 (k9 ms))) zk ⟨rfl, rfl, rfl, rfl, rfl, rfl, f5, rfl, rfl, rfl, rfl, rfl, rfl, rfl, rfl, rfl, rfl, rfl, rfl, rfl, rfl⟩ ?_
   rintro ⟨⟨j, f⟩, hinv2⟩
   obtain ⟨hj, hf⟩ : (j ≤ q) ∧ (iM (List.take j ms) (uL (kI l i2)) = f) := hinv2
   refine uI (l := [(0, rV 0 0), (2, rV 1 0), (3, rV 2 0), (5, iV ((((1 + (kB (uY kJ (kH l) 4) 3)) : Nat) : Int) - (i2 : Int))), (6, sV .i64 (uL (kI l i2)) (List.length (uL (kI l i2)))), (7, kP (D.lit (.bool (f)))), (56, oV 6 0 q 1), (57, uV q), (58, uV j)]) (g := [(0, some (66, (yL l i2))), (1, some (78, uA)), (2, some (78, (yR y l q))), (6, some (63, .ds (k9 ms)))]) (nx := 7) rfl rfl rfl ?_
   by_cases hx12 : (((j : Nat) : Int) < ((q : Nat) : Int))
   ·refine kK [.b true] (((j : Int) < (q : Int))) [(0, rV 0 0), (2, rV 1 0), (3, rV 2 0), (5, iV ((((1 + (kB (uY kJ (kH l) 4) 3)) : Nat) : Int) - ↑i2)), (6, sV .i64 (uL (kI l i2)) (List.length (uL (kI l i2)))), (7, kP (D.lit (.bool (f)))), (56, oV 6 0 q 1), (57, uV q), (58, uV j), (59, bV true)] [(0, some (66, (yL l i2))), (1, some (78, uA)), (2, some (78, (yR y l q))), (6, some (63, .ds (k9 ms)))] 7 zo ?_
    refine AW.seq ?_
    refine vC ?_
    refine AW.seq ?_
    refine AW.block ?_
    have hx13 : ((List.length (List.getD ms j ([] : List Int))) ≤ 1000000) := MsW.at (kS : MsW ms) _
    refine kX [.n2 j j, .d (dl (List.getD ms j ([] : List Int)) (List.length (List.getD ms j ([] : List Int)))), .no] ((kN (j : Int)) ∧ (j < q) ∧ ((0 : Nat) + j * 1 = j) ∧ ((k9 ms)[j]? = some (dl (List.getD ms j ([] : List Int)) (List.length (List.getD ms j ([] : List Int)))))) [(0, rV 0 0), (2, rV 1 0), (3, rV 2 0), (5, iV ((((1 + (kB (uY kJ (kH l) 4) 3)) : Nat) : Int) - ↑i2)), (6, sV .i64 (uL (kI l i2)) (List.length (uL (kI l i2)))), (7, kP (D.lit (.bool (f)))), (9, sV .i64 (List.getD ms j ([] : List Int)) (List.length (List.getD ms j ([] : List Int)))), (56, oV 6 0 q 1), (57, uV q), (58, uV j)] ⟨rfl, zo, zo, (k4c _ _ (by first | omega | (simp only [kR, kQ, List.length_append, List.length_cons, List.length_nil, List.length_take, List.length_drop] <;> omega)))⟩ ?_
    rcases Bool.eq_false_or_eq_true (f) with hx15 | hx15
    ·subst hx15
     have hx16 : 1 ≤ List.length (List.getD ms j ([] : List Int)) := hN.at zo
     refine aV (kU 4 []) True [(0, rV 0 0), (2, rV 1 0), (3, rV 2 0), (5, iV ((((1 + (kB (uY kJ (kH l) 4) 3)) : Nat) : Int) - ↑i2)), (6, sV .i64 (uL (kI l i2)) (List.length (uL (kI l i2)))), (7, bV true), (56, oV 6 0 q 1), (57, uV q), (58, uV j)] [(0, some (66, (yL l i2))), (1, some (78, uA)), (2, some (78, (yR y l q))), (6, some (63, .ds (k9 ms)))] 7 trivial ?_
     refine yG [.w, .no] (qM ((j : Int) + 1)) [(0, rV 0 0), (2, rV 1 0), (3, rV 2 0), (5, iV ((((1 + (kB (uY kJ (kH l) 4) 3)) : Nat) : Int) - ↑i2)), (6, sV .i64 (uL (kI l i2)) (List.length (uL (kI l i2)))), (7, bV true), (56, oV 6 0 q 1), (57, uV q), (58, iV (↑j + 1))] ⟨by omega, by omega⟩ ?_
     exact qR ⟨(((j + 1) : Nat), (true : Bool)), ⟨v8, (by first | exact k3t zo hf | exact k3v zo zo | exact k3u zo hf zo)⟩⟩ [] (P := (kM 0) ∧ (kM 0) ∧ (kM 0) ∧ (kN ((((1 + (kB (uY kJ (kH l) 4) 3)) : Nat) : Int) - (i2 : Int))) ∧ (k8 (dI .i64 (uL (kI l i2)))) ∧ (kM (List.length (uL (kI l i2)))) ∧ ((true) = true) ∧ (kM 0) ∧ (kM q) ∧ (kN (q : Int)) ∧ (((((j + 1) : Nat) : Int) : Int) = ((j : Int) + 1)) ∧ (k8 [db (kA (kI l i2) 7) (List.length (kA (kI l i2) 7))]) ∧ (k8 [iD 0, qI, qI, qI]) ∧ (kN y) ∧ (k8 (dI .i64 (yC l))) ∧ (kM (yF (y2 qE (qD l) 5) (yY qE (qD l) 5))) ∧ (kM 0) ∧ (kM q) ∧ (k8 (dI .i64 (yI l))) ∧ (kM (yF (y2 kJ (kH l) 4) (yY kJ (kH l) 4))) ∧ (k8 (k9 ms))) zk ⟨rfl, rfl, rfl, rfl, rfl, rfl, f5, rfl, rfl, rfl, aX, rfl, rfl, rfl, rfl, rfl, rfl, rfl, rfl, rfl, rfl⟩ (show q - (j + 1) < q - j from cP)
    ·subst hx15
     by_cases hx18 : ((((List.length (List.getD ms j ([] : List Int))) : Nat) : Int) = (((List.length (uL (kI l i2))) : Nat) : Int))
     ·by_cases hx20 : ((List.getD (List.getD ms j ([] : List Int)) 0 0) = (List.getD (uL (kI l i2)) 0 0))
      ·have hx21 : 1 ≤ List.length (List.getD ms j ([] : List Int)) := hN.at zo
       refine aV (kU 6 [.b true, .no, .no, .n 0, .d (D.lit (.int .i64 (List.getD (List.getD ms j ([] : List Int)) 0 0))), .no, .n 0, .d (D.lit (.int .i64 (List.getD (uL (kI l i2)) 0 0))), .b true, .no, .no, .no]) ((((((List.length (List.getD ms j ([] : List Int))) : Nat) : Int) = (List.length (uL (kI l i2)) : Int))) ∧ (kN 0) ∧ ((0 : Nat) < (List.length (List.getD ms j ([] : List Int)))) ∧ ((List.drop 0 (dI .i64 (List.getD ms j ([] : List Int))))[0]? = some (D.lit (.int .i64 (List.getD (List.getD ms j ([] : List Int)) 0 0)))) ∧ (kN 0) ∧ ((0 : Nat) < (List.length (uL (kI l i2)))) ∧ ((List.drop 0 (dI .i64 (uL (kI l i2))))[0]? = some (D.lit (.int .i64 (List.getD (uL (kI l i2)) 0 0)))) ∧ (((List.getD (List.getD ms j ([] : List Int)) 0 0) = (List.getD (uL (kI l i2)) 0 0)))) [(0, rV 0 0), (2, rV 1 0), (3, rV 2 0), (5, iV ((((1 + (kB (uY kJ (kH l) 4) 3)) : Nat) : Int) - ↑i2)), (6, sV .i64 (uL (kI l i2)) (List.length (uL (kI l i2)))), (7, bV true), (56, oV 6 0 q 1), (57, uV q), (58, uV j)] [(0, some (66, (yL l i2))), (1, some (78, uA)), (2, some (78, (yR y l q))), (6, some (63, .ds (k9 ms)))] 7 ⟨zo, rfl, zo, (qU _ _ _ aY), rfl, zo, (qU _ _ _ aY), zo⟩ ?_
       refine yG [.w, .no] (qM ((j : Int) + 1)) [(0, rV 0 0), (2, rV 1 0), (3, rV 2 0), (5, iV ((((1 + (kB (uY kJ (kH l) 4) 3)) : Nat) : Int) - ↑i2)), (6, sV .i64 (uL (kI l i2)) (List.length (uL (kI l i2)))), (7, bV true), (56, oV 6 0 q 1), (57, uV q), (58, iV (↑j + 1))] ⟨by omega, by omega⟩ ?_
       exact qR ⟨(((j + 1) : Nat), (true : Bool)), ⟨v8, (by first | exact k3t zo hf | exact k3v zo zo | exact k3u zo hf zo)⟩⟩ [] (P := (kM 0) ∧ (kM 0) ∧ (kM 0) ∧ (kN ((((1 + (kB (uY kJ (kH l) 4) 3)) : Nat) : Int) - (i2 : Int))) ∧ (k8 (dI .i64 (uL (kI l i2)))) ∧ (kM (List.length (uL (kI l i2)))) ∧ ((true) = true) ∧ (kM 0) ∧ (kM q) ∧ (kN (q : Int)) ∧ (((((j + 1) : Nat) : Int) : Int) = ((j : Int) + 1)) ∧ (k8 [db (kA (kI l i2) 7) (List.length (kA (kI l i2) 7))]) ∧ (k8 [iD 0, qI, qI, qI]) ∧ (kN y) ∧ (k8 (dI .i64 (yC l))) ∧ (kM (yF (y2 qE (qD l) 5) (yY qE (qD l) 5))) ∧ (kM 0) ∧ (kM q) ∧ (k8 (dI .i64 (yI l))) ∧ (kM (yF (y2 kJ (kH l) 4) (yY kJ (kH l) 4))) ∧ (k8 (k9 ms))) zk ⟨rfl, rfl, rfl, rfl, rfl, rfl, f5, rfl, rfl, rfl, aX, rfl, rfl, rfl, rfl, rfl, rfl, rfl, rfl, rfl, rfl⟩ (show q - (j + 1) < q - j from cP)
      ·have hx22 : 1 ≤ List.length (List.getD ms j ([] : List Int)) := hN.at zo
       refine aV (kU 6 [.b true, .no, .no, .n 0, .d (D.lit (.int .i64 (List.getD (List.getD ms j ([] : List Int)) 0 0))), .no, .n 0, .d (D.lit (.int .i64 (List.getD (uL (kI l i2)) 0 0))), .b false, .no, .no, .no]) ((((((List.length (List.getD ms j ([] : List Int))) : Nat) : Int) = (List.length (uL (kI l i2)) : Int))) ∧ (kN 0) ∧ ((0 : Nat) < (List.length (List.getD ms j ([] : List Int)))) ∧ ((List.drop 0 (dI .i64 (List.getD ms j ([] : List Int))))[0]? = some (D.lit (.int .i64 (List.getD (List.getD ms j ([] : List Int)) 0 0)))) ∧ (kN 0) ∧ ((0 : Nat) < (List.length (uL (kI l i2)))) ∧ ((List.drop 0 (dI .i64 (uL (kI l i2))))[0]? = some (D.lit (.int .i64 (List.getD (uL (kI l i2)) 0 0)))) ∧ (¬ ((List.getD (List.getD ms j ([] : List Int)) 0 0) = (List.getD (uL (kI l i2)) 0 0)))) [(0, rV 0 0), (2, rV 1 0), (3, rV 2 0), (5, iV ((((1 + (kB (uY kJ (kH l) 4) 3)) : Nat) : Int) - ↑i2)), (6, sV .i64 (uL (kI l i2)) (List.length (uL (kI l i2)))), (7, bV false), (56, oV 6 0 q 1), (57, uV q), (58, uV j)] [(0, some (66, (yL l i2))), (1, some (78, uA)), (2, some (78, (yR y l q))), (6, some (63, .ds (k9 ms)))] 7 ⟨zo, rfl, zo, (qU _ _ _ aY), rfl, zo, (qU _ _ _ aY), zo⟩ ?_
       refine yG [.w, .no] (qM ((j : Int) + 1)) [(0, rV 0 0), (2, rV 1 0), (3, rV 2 0), (5, iV ((((1 + (kB (uY kJ (kH l) 4) 3)) : Nat) : Int) - ↑i2)), (6, sV .i64 (uL (kI l i2)) (List.length (uL (kI l i2)))), (7, bV false), (56, oV 6 0 q 1), (57, uV q), (58, iV (↑j + 1))] ⟨by omega, by omega⟩ ?_
       exact qR ⟨(((j + 1) : Nat), (false : Bool)), ⟨v8, (by first | exact k3t zo hf | exact k3v zo zo | exact k3u zo hf zo)⟩⟩ [] (P := (kM 0) ∧ (kM 0) ∧ (kM 0) ∧ (kN ((((1 + (kB (uY kJ (kH l) 4) 3)) : Nat) : Int) - (i2 : Int))) ∧ (k8 (dI .i64 (uL (kI l i2)))) ∧ (kM (List.length (uL (kI l i2)))) ∧ ((false) = false) ∧ (kM 0) ∧ (kM q) ∧ (kN (q : Int)) ∧ (((((j + 1) : Nat) : Int) : Int) = ((j : Int) + 1)) ∧ (k8 [db (kA (kI l i2) 7) (List.length (kA (kI l i2) 7))]) ∧ (k8 [iD 0, qI, qI, qI]) ∧ (kN y) ∧ (k8 (dI .i64 (yC l))) ∧ (kM (yF (y2 qE (qD l) 5) (yY qE (qD l) 5))) ∧ (kM 0) ∧ (kM q) ∧ (k8 (dI .i64 (yI l))) ∧ (kM (yF (y2 kJ (kH l) 4) (yY kJ (kH l) 4))) ∧ (k8 (k9 ms))) zk ⟨rfl, rfl, rfl, rfl, rfl, rfl, f5, rfl, rfl, rfl, aX, rfl, rfl, rfl, rfl, rfl, rfl, rfl, rfl, rfl, rfl⟩ (show q - (j + 1) < q - j from cP)
     ·have hx23 : 1 ≤ List.length (List.getD ms j ([] : List Int)) := hN.at zo
      refine aV (kU 6 (.b false :: kU 4 [])) (¬ ((((List.length (List.getD ms j ([] : List Int))) : Nat) : Int) = (List.length (uL (kI l i2)) : Int))) [(0, rV 0 0), (2, rV 1 0), (3, rV 2 0), (5, iV ((((1 + (kB (uY kJ (kH l) 4) 3)) : Nat) : Int) - ↑i2)), (6, sV .i64 (uL (kI l i2)) (List.length (uL (kI l i2)))), (7, bV false), (56, oV 6 0 q 1), (57, uV q), (58, uV j)] [(0, some (66, (yL l i2))), (1, some (78, uA)), (2, some (78, (yR y l q))), (6, some (63, .ds (k9 ms)))] 7 zo ?_
      refine yG [.w, .no] (qM ((j : Int) + 1)) [(0, rV 0 0), (2, rV 1 0), (3, rV 2 0), (5, iV ((((1 + (kB (uY kJ (kH l) 4) 3)) : Nat) : Int) - ↑i2)), (6, sV .i64 (uL (kI l i2)) (List.length (uL (kI l i2)))), (7, bV false), (56, oV 6 0 q 1), (57, uV q), (58, iV (↑j + 1))] ⟨by omega, by omega⟩ ?_
      exact qR ⟨(((j + 1) : Nat), (false : Bool)), ⟨v8, (by first | exact k3t zo hf | exact k3v zo zo | exact k3u zo hf zo)⟩⟩ [] (P := (kM 0) ∧ (kM 0) ∧ (kM 0) ∧ (kN ((((1 + (kB (uY kJ (kH l) 4) 3)) : Nat) : Int) - (i2 : Int))) ∧ (k8 (dI .i64 (uL (kI l i2)))) ∧ (kM (List.length (uL (kI l i2)))) ∧ ((false) = false) ∧ (kM 0) ∧ (kM q) ∧ (kN (q : Int)) ∧ (((((j + 1) : Nat) : Int) : Int) = ((j : Int) + 1)) ∧ (k8 [db (kA (kI l i2) 7) (List.length (kA (kI l i2) 7))]) ∧ (k8 [iD 0, qI, qI, qI]) ∧ (kN y) ∧ (k8 (dI .i64 (yC l))) ∧ (kM (yF (y2 qE (qD l) 5) (yY qE (qD l) 5))) ∧ (kM 0) ∧ (kM q) ∧ (k8 (dI .i64 (yI l))) ∧ (kM (yF (y2 kJ (kH l) 4) (yY kJ (kH l) 4))) ∧ (k8 (k9 ms))) zk ⟨rfl, rfl, rfl, rfl, rfl, rfl, f5, rfl, rfl, rfl, aX, rfl, rfl, rfl, rfl, rfl, rfl, rfl, rfl, rfl, rfl⟩ (show q - (j + 1) < q - j from cP)
   ·refine kK [.b false] (¬ ((j : Int) < (q : Int))) [(0, rV 0 0), (2, rV 1 0), (3, rV 2 0), (5, iV ((((1 + (kB (uY kJ (kH l) 4) 3)) : Nat) : Int) - ↑i2)), (6, sV .i64 (uL (kI l i2)) (List.length (uL (kI l i2)))), (7, kP (D.lit (.bool (f)))), (56, oV 6 0 q 1), (57, uV q), (58, uV j), (59, bV false)] [(0, some (66, (yL l i2))), (1, some (78, uA)), (2, some (78, (yR y l q))), (6, some (63, .ds (k9 ms)))] 7 zo ?_
    refine AW.seq ?_
    refine zf ?_
    refine AW.exit ?_
    rcases Bool.eq_false_or_eq_true (f) with hx24 | hx24
    ·subst hx24
     refine kK [.no, .no] True [(0, rV 0 0), (2, rV 1 0), (3, rV 2 0), (5, iV ((((1 + (kB (uY kJ (kH l) 4) 3)) : Nat) : Int) - ↑i2)), (6, sV .i64 (uL (kI l i2)) (List.length (uL (kI l i2)))), (81, bV false)] [(0, some (66, (yL l i2))), (1, some (78, uA)), (2, some (78, (yR y l q))), (6, some (63, .ds (k9 ms)))] 7 trivial ?_
     refine yW ?_
     refine yG [.no, .w, .no] ((-9223372036854775808) ≤ (((((1 + (kB (uY kJ (kH l) 4) 3)) : Nat) : Int) - (i2 : Int)) - 1) ∧ (((((1 + (kB (uY kJ (kH l) 4) 3)) : Nat) : Int) - (i2 : Int)) - 1) ≤ 9223372036854775807) [(0, rV 0 0), (2, rV 1 0), (3, rV 2 0), (5, iV (((((1 + (kB (uY kJ (kH l) 4) 3)) : Nat) : Int) - ↑i2) - 1))] ⟨by omega, by omega⟩ ?_
     exact qR ⟨(((i2 + 1) : Nat), (q : Nat), (ms : List (List Int))), ⟨v8, (by first | exact u17 hm (lP hq.1 zo hf) | exact u1a hm (lP hq.1 zo hf)), (by first | omega | (simp only [kR, kQ, List.length_append, List.length_cons, List.length_nil] <;> omega)), (by first | assumption | exact hN.snoc zo), (by first | assumption | exact hW.snoc (Nat.le_trans (mA _) zo))⟩⟩ [] (P := (kM 0) ∧ (kM 0) ∧ (kM 0) ∧ ((((((1 + (kB (uY kJ (kH l) 4) 3)) : Nat) : Int) - (((i2 + 1) : Nat) : Int)) : Int) = (((((1 + (kB (uY kJ (kH l) 4) 3)) : Nat) : Int) - (i2 : Int)) - 1)) ∧ (([db (iQ (uP l) (i2 + 1)) (List.length (iQ (uP l) (i2 + 1)))] : List D) = [db (kA (kI l i2) 7) (List.length (kA (kI l i2) 7))]) ∧ (k8 [iD 0, qI, qI, qI]) ∧ (kN y) ∧ (k8 (dI .i64 (yC l))) ∧ (kM (yF (y2 qE (qD l) 5) (yY qE (qD l) 5))) ∧ (kM 0) ∧ (kM q) ∧ (k8 (dI .i64 (yI l))) ∧ (kM (yF (y2 kJ (kH l) 4) (yY kJ (kH l) 4))) ∧ (k8 (k9 ms))) zk ⟨rfl, rfl, rfl, aX, (by first | rfl | with_reducible assumption), rfl, rfl, rfl, rfl, rfl, rfl, rfl, rfl, rfl⟩ (show 1 + kB (uY kJ (kH l) 4) 3 - (i2 + 1) < 1 + kB (uY kJ (kH l) 4) 3 - i2 from cP)
    ·subst hx24
     refine kK [.no, .no] True [(0, rV 0 0), (2, rV 1 0), (3, rV 2 0), (5, iV ((((1 + (kB (uY kJ (kH l) 4) 3)) : Nat) : Int) - ↑i2)), (6, sV .i64 (uL (kI l i2)) (List.length (uL (kI l i2)))), (81, bV true)] [(0, some (66, (yL l i2))), (1, some (78, uA)), (2, some (78, (yR y l q))), (6, some (63, .ds (k9 ms)))] 7 trivial ?_
     refine zt ?_
     refine aV (kU 4 [.ap none (q + 1) (k9 (ms ++ ([(uL (kI l i2))] : List (List Int)))), .no, .no]) (([dl (uL (kI l i2)) (List.length (uL (kI l i2)))].length = 1 * 1) ∧ (((k9 ms) : List D).length = q * 1) ∧ ((q + 1) * 24 ≤ 140737488355328) ∧ (q + 1 = (q + 1)) ∧ (((k9 ms) : List D) ++ [dl (uL (kI l i2)) (List.length (uL (kI l i2)))] = (k9 (ms ++ ([(uL (kI l i2))] : List (List Int)))))) [(0, rV 0 0), (2, rV 1 0), (3, rV 2 0), (5, iV ((((1 + (kB (uY kJ (kH l) 4) 3)) : Nat) : Int) - ↑i2))] [(0, some (66, (yL l i2))), (1, some (78, uA)), (2, some (78, .cs [iC y, .d (dl (yC l) (yF (y2 qE (qD l) 5) (yY qE (qD l) 5))), .own 8 0 (q + 1) 1 true, .d (dl (yI l) (yF (y2 kJ (kH l) 4) (yY kJ (kH l) 4)))])), (8, some (63, .ds (k9 (ms ++ ([(uL (kI l i2))] : List (List Int))))))] 9 ⟨aY, aY, zo, zo, (t9 ms (uL (kI l i2)) (List.length (uL (kI l i2))) (by first | rfl | omega))⟩ ?_
     refine yG [.no, .w, .no] ((-9223372036854775808) ≤ (((((1 + (kB (uY kJ (kH l) 4) 3)) : Nat) : Int) - (i2 : Int)) - 1) ∧ (((((1 + (kB (uY kJ (kH l) 4) 3)) : Nat) : Int) - (i2 : Int)) - 1) ≤ 9223372036854775807) [(0, rV 0 0), (2, rV 1 0), (3, rV 2 0), (5, iV (((((1 + (kB (uY kJ (kH l) 4) 3)) : Nat) : Int) - ↑i2) - 1))] ⟨by omega, by omega⟩ ?_
     exact qR ⟨(((i2 + 1) : Nat), ((q + 1) : Nat), ((ms ++ ([(uL (kI l i2))] : List (List Int))) : List (List Int))), ⟨v8, (by first | exact u17 hm (lP hq.1 zo hf) | exact u1a hm (lP hq.1 zo hf)), (by first | omega | (simp only [kR, kQ, List.length_append, List.length_cons, List.length_nil] <;> omega)), (by first | assumption | exact hN.snoc zo), (by first | assumption | exact hW.snoc (Nat.le_trans (mA _) zo))⟩⟩ [(6, 8)] (P := (kM 0) ∧ (kM 0) ∧ (kM 0) ∧ ((((((1 + (kB (uY kJ (kH l) 4) 3)) : Nat) : Int) - (((i2 + 1) : Nat) : Int)) : Int) = (((((1 + (kB (uY kJ (kH l) 4) 3)) : Nat) : Int) - (i2 : Int)) - 1)) ∧ (([db (iQ (uP l) (i2 + 1)) (List.length (iQ (uP l) (i2 + 1)))] : List D) = [db (kA (kI l i2) 7) (List.length (kA (kI l i2) 7))]) ∧ (k8 [iD 0, qI, qI, qI]) ∧ (kN y) ∧ (k8 (dI .i64 (yC l))) ∧ (kM (yF (y2 qE (qD l) 5) (yY qE (qD l) 5))) ∧ (kM 0) ∧ (kM (q + 1)) ∧ (k8 (dI .i64 (yI l))) ∧ (kM (yF (y2 kJ (kH l) 4) (yY kJ (kH l) 4))) ∧ (k8 (k9 (ms ++ ([(uL (kI l i2))] : List (List Int)))))) zk ⟨rfl, rfl, rfl, aX, (by first | rfl | with_reducible assumption), rfl, rfl, rfl, rfl, rfl, rfl, rfl, rfl, rfl⟩ (show 1 + kB (uY kJ (kH l) 4) 3 - (i2 + 1) < 1 + kB (uY kJ (kH l) 4) 3 - i2 from cP)
  ·refine kK [.no, .b false] (¬ ((0 : Int) < ((((1 + (kB (uY kJ (kH l) 4) 3)) : Nat) : Int) - (i2 : Int)))) [(0, rV 0 0), (2, rV 1 0), (3, rV 2 0), (5, iV ((((1 + (kB (uY kJ (kH l) 4) 3)) : Nat) : Int) - ↑i2)), (50, bV false)] [(0, some (66, .ds [db (kI l i2) (List.length (kI l i2))])), (1, some (78, uA)), (2, some (78, (yR y l q))), (6, some (63, .ds (k9 ms)))] 7 zo ?_
   refine zf ?_
   refine AW.exit ?_
   refine kK [.no, .no] True [(2, rV 1 0)] [(0, some (66, .ds [db (kI l i2) (List.length (kI l i2))])), (1, some (78, (yR y l q))), (6, some (63, .ds (k9 ms)))] 7 trivial ?_
   obtain rfl : i2 = (1 + (kB (uY kJ (kH l) 4) 3)) := (by omega)
   refine AW.freeze 6 (l' := [(2, rV 1 0)]) (g' := [(0, some (66, .ds [db (iQ (uP l) (1 + (kB (uY kJ (kH l) 4) 3))) (List.length (iQ (uP l) (1 + (kB (uY kJ (kH l) 4) 3))))])), (1, some (78, .ds [iD y, dl (yC l) (yF (y2 qE (qD l) 5) (yY qE (qD l) 5)), D.sl (k9 ms) q, dl (yI l) (yF (y2 kJ (kH l) 4) (yY kJ (kH l) 4))]))]) rfl (FzS.cons rfl (.same _) FzS.nil) (uO rfl rfl (FzG.to (bc := .cs [iC y, .d (dl (yC l) (yF (y2 qE (qD l) 5) (yY qE (qD l) 5))), .own 6 0 q 1 true, .d (dl (yI l) (yF (y2 kJ (kH l) 4) (yY kJ (kH l) 4)))]) rfl (by rfl) (FzL.cons (.same _) (FzL.cons (.same _) (FzL.cons (@FzC.own 6 ((k9 ms) : List D) 0 q 1 true ((k9 ms) : List D) (by rw [List.drop_zero, Nat.mul_one, List.take_of_length_le (by first | omega | (simp only [kR, kQ, qL, List.length_append, List.length_cons, List.length_nil, List.length_take, List.length_drop, List.length_replicate, List.length_set, List.length_map, List.length_reverse, Nat.mul_one] <;> omega))]) aY) (FzL.cons (.same _) FzL.nil)))) FzG.nil)) ?_
   have hz1 : pR l = y := hy
   have hz2 : fJ l = ms := hm
   refine AW.ret ?_
   exact kC (.inr rfl) [] (P := (((pR l) : Int) = y) ∧ (((dI .i64 (pQ l)) : List D) = (dI .i64 (yC l))) ∧ (((nU l) : Nat) = (yF (y2 qE (qD l) 5) (yY qE (qD l) 5))) ∧ (((k9 (fJ l)) : List D) = (k9 ms)) ∧ (((List.length (fJ l)) : Nat) = q) ∧ (((dI .i64 (pP l)) : List D) = (dI .i64 (yI l))) ∧ (((nT l) : Nat) = (yF (y2 kJ (kH l) 4) (yY kJ (kH l) 4))) ∧ (([db (x7 l) (List.length (x7 l))] : List D) = [db (iQ (uP l) (1 + (kB (uY kJ (kH l) 4) 3))) (List.length (iQ (uP l) (1 + (kB (uY kJ (kH l) 4) 3))))])) zk ⟨(by first | rfl | exact hz1 | (rw [hz2]; omega) | omega), (by first | rfl | (rw [hz2]; done) | (rw [hz2]; rfl)), (by first | rfl | exact hz1 | (rw [hz2]; omega) | omega), (by first | rfl | (rw [hz2]; done) | (rw [hz2]; rfl)), (by first | rfl | exact hz1 | (rw [hz2]; omega) | omega), (by first | rfl | (rw [hz2]; done) | (rw [hz2]; rfl)), (by first | rfl | exact hz1 | (rw [hz2]; omega) | omega), (by first | rfl | (rw [hz2]; done) | (rw [hz2]; rfl))⟩
end Go.Proofs.Ytalbpleglapihaa
