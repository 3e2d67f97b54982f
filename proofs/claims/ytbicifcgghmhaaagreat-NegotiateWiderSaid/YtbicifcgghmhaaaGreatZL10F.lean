/- Boxes out of dice. No statement is proved here. -/
import Derived.Test.YtbicifcgghmhaaaGreatZL10E
namespace Go.Proofs.YtbicifcgghmhaaaGreat
open Go.ChangeShapes Go.WideShapes Go.ChangeAt Go.RowKit
open List renaming drop → ka3, getD → ka1, getD_eq_getElem?_getD → ka6, getElem?_eq_getElem → ka7, length → ka0, length_append → ka8, length_cons → kb0, length_drop → kb6, length_map → kc3, length_nil → kb2, length_replicate → kb5, length_reverse → kc0, length_set → kc1, length_take → kb4, take → ka5, take_of_length_le → kb7
set_option linter.unusedVariables false
set_option linter.unusedSimpArgs false
set_option maxHeartbeats 4000000
set_option maxRecDepth 100000
theorem u20 (xs : List (List Int)) (i : Nat) (h : i < xs.length) : (kI xs)[i]? = some (D.sl (dI .i64 (ka1 xs i [])) (ka1 xs i []).length) := by
 have := bE xs i h
 rw [List.getElem?_drop, Nat.add_zero] at this; exact this
def kbV (l : List Int) : Int := IntKind.i64.wrap (1 * (((2 ^ (1 + (kD l 7))) : Nat) : Int))
def orI (a b : Int) : Int := qF .or .i64 a b
def dL (l : List Int) : Nat → List Int
 | 0 => l
 | i + 1 => kC (dL l i) 7
def knK (l : List Int) (k : Int) : Nat → Int
 | 0 => k
 | i + 1 => orI (knK l k i) (kbV (dL l i))
theorem vW {l : List Int} (h : Byt l) : ∀ i, Byt (dL l i)
 | 0 => h
 | i + 1 => qH _ (vW h i)
def thE (x m : List Int) : Bool := decide (ka0 x = ka0 m ∧ ka1 x 0 0 = ka1 m 0 0)
def nW (ms : List (List Int)) (m : List Int) : Bool := ms.any fun x => thE x m
theorem v4b (ms : List (List Int)) (m : List Int) : nW (ka5 0 ms) m = false := rfl
theorem rH {ms : List (List Int)} {m : List Int} {j : Nat} (h : j < ms.length) : nW (ka5 (j + 1) ms) m = (nW (ka5 j ms) m || thE (ka1 ms j []) m) := by
 unfold nW
 rw [ka6, ka7 h, List.take_succ_eq_append_getElem h, List.any_append]
 simp
theorem v49 {ms : List (List Int)} {m : List Int} {j : Nat} (h : j < ms.length) (h1 : nW (ka5 j ms) m = true) : nW (ka5 (j + 1) ms) m = true := by
 rw [rH h, h1]; rfl
theorem v4a {ms : List (List Int)} {m : List Int} {j : Nat} (h : j < ms.length) (h1 : ka0 (ka1 ms j []) = ka0 m ∧ ka1 (ka1 ms j []) 0 0 = ka1 m 0 0) : nW (ka5 (j + 1) ms) m = true := by
 rw [rH h, show thE (ka1 ms j []) m = true from decide_eq_true h1, Bool.or_true]
theorem v01 {ms : List (List Int)} {m : List Int} {j : Nat} (h : j < ms.length) (h0 : nW (ka5 j ms) m = false) (h1 : ¬ (ka0 (ka1 ms j []) = ka0 m ∧ ka1 (ka1 ms j []) 0 0 = ka1 m 0 0)) : nW (ka5 (j + 1) ms) m = false := by
 rw [rH h, h0, show thE (ka1 ms j []) m = false from decide_eq_false h1]; rfl
def nY (l : List Int) : Nat → List Int
 | 0 => l
 | i + 1 => kC (nY l i) 7
def nX (l : List Int) : Nat → List (List Int)
 | 0 => []
 | i + 1 => if nW (nX l i) (yC (nY l i)) = true then nX l i else nX l i ++ [yC (nY l i)]
theorem iH {l : List Int} (h : Byt l) : ∀ i, Byt (nY l i)
 | 0 => h
 | i + 1 => qH _ (iH h i)
theorem v5f {l : List Int} {i : Nat} {ms : List (List Int)} (h : nX l i = ms) (h1 : nW ms (yC (nY l i)) = true) : nX l (i + 1) = ms := by
 subst h; exact if_pos h1
theorem v5g {l : List Int} {i : Nat} {ms : List (List Int)} (h : nX l i = ms) (h1 : nW ms (yC (nY l i)) = false) : nX l (i + 1) = ms ++ [yC (nY l i)] := by
 subst h; exact if_neg (by rw [h1]; decide)
theorem v5j {l : List Int} {k : Int} {i : Nat} {y x : Int} (h : knK l k i = y) (hx : x = orI y (kbV (dL l i))) : knK l k (i + 1) = x := by
 subst h; rw [hx]; rfl
theorem k57 {ms : List (List Int)} {m : List Int} {j c : Nat} {f : Bool} (hc : ms.length = c) (hj : c ≤ j) (h : nW (ka5 j ms) m = f) : nW ms m = f := by
 rw [kb7 (by omega)] at h; exact h
theorem k6w (l : List Int) : ∀ i, MsW (nX l i)
 | 0 => MsW.nil
 | i + 1 => by
  rw [nX]; split
  ·exact k6w l i
  ·exact (k6w l i).snoc (Nat.le_trans (k0g _) (by omega))
theorem k0f (l : List Int) : ∀ i, ka0 (nX l i) ≤ i
 | 0 => Nat.le_refl _
 | i + 1 => by
  have := k0f l i
  rw [nX]; split
  ·omega
  ·rw [ka8, List.length_singleton]; omega
def bo1 (l : List Int) : List Int := kC (kC l 7) 3
def bo2 (l : List Int) : List Int := dL (bo1 l) (kD (kC l 7) 3)
def rtT : List Int := [44100, 44100, 48000, 48000, 8000, 8000, 32000, 50000, 96000, 192000]
def szT : List Int := [16, 64, 64, 1024, 2048, 2048, 1, 65536]
def bo3 (l : List Int) : List Int := yV rtT (bo2 l) 5
def bo4 (l : List Int) : List Int := yV szT (bo3 l) 4
def bo5 (l : List Int) : List Int := kC (bo4 l) 3
def boN (l : List Int) : Nat := 1 + kD (bo4 l) 3
def boD (l : List Int) : List Int := nY (bo5 l) (boN l)
def eL (l : List Int) : Int := knK (bo1 l) (kbV l) (kD (kC l 7) 3)
def eK (l : List Int) : List Int := d9 (aN rtT (bo2 l) 5) (aG rtT (bo2 l) 5)
def eD (l : List Int) : Nat := vI (aN rtT (bo2 l) 5) (aG rtT (bo2 l) 5)
def eJ (l : List Int) : List Int := d9 (aN szT (bo3 l) 4) (aG szT (bo3 l) 4)
def eC (l : List Int) : Nat := vI (aN szT (bo3 l) 4) (aG szT (bo3 l) 4)
def b9 (l : List Int) : List (List Int) := nX (bo5 l) (boN l)
def MsN (xs : List (List Int)) : Prop := ∀ l ∈ xs, 1 ≤ ka0 l
theorem MsN.nil : MsN [] := fun l h => by cases h
theorem MsN.snoc {xs : List (List Int)} {l : List Int} (h : MsN xs) (hl : 1 ≤ ka0 l) : MsN (xs ++ [l]) := fun m hm => (List.mem_append.1 hm).elim (h m) fun hm => by
 rw [List.mem_singleton.1 hm]; exact hl
theorem MsN.at {xs : List (List Int)} (h : MsN xs) {i : Nat} (hi : i < xs.length) : 1 ≤ ka0 (ka1 xs i []) := by
 rw [ka6, ka7 hi]; exact h _ (List.getElem_mem hi)
attribute [local irreducible] aN yV aG d9 vI kD kC yC nW
abbrev qY := ([44100, 44100, 48000, 48000, 8000, 8000, 32000, 50000, 96000, 192000] : List Int)
abbrev qX (l : List Int) := dL (kC (kC l 7) 3) (kD (kC l 7) 3)
abbrev kL (l : List Int) := yV qY (qX l) 5
abbrev kP := ([16, 64, 64, 1024, 2048, 2048, 1, 65536] : List Int)
abbrev yH (l : List Int) := kC (yV kP (kL l) 4) 3
abbrev kO (l : List Int) (i2 : Nat) := nY (yH l) i2
abbrev vD (l : List Int) := d9 (aN qY (qX l) 5) (aG qY (qX l) 5)
abbrev vO (l : List Int) := d9 (aN kP (kL l) 4) (aG kP (kL l) 4)
theorem mD {p : Prop} (h : p := by (simp only [qB, qA, qQ, ka8, kb0, kb2, kb4, kb6, kb5, kc1, kc3, kc0, Nat.mul_one] <;> omega)) : p := h
abbrev v8 (y : Int) (l : List Int) (q : Nat) : BC := .cs [iC y, .d (D.sl (dI .i64 (vD l)) (vI (aN qY (qX l) 5) (aG qY (qX l) 5))), .own 6 0 q 1 true, .d (D.sl (dI .i64 (vO l)) (vI (aN kP (kL l) 4) (aG kP (kL l) 4)))]
abbrev uQ : BC := .ds [iD 0, D.lit (.slice none 0 0), D.lit (.slice none 0 0), D.lit (.slice none 0 0)]
abbrev vT (l : List Int) (i2 : Nat) : BC := .ds [D.sl (dI .u8 (kC (kO l i2) 7)) (ka0 (kC (kO l i2) 7))]
abbrev lS (l : List Int) (i : Nat) : BC := .ds [D.sl (dI .u8 (dL (kC (kC l 7) 3) i)) (ka0 (dL (kC (kC l 7) 3) i))]
abbrev lR (y : Int) : BC := .ds [iD y, D.lit (.slice none 0 0), D.lit (.slice none 0 0), D.lit (.slice none 0 0)]
theorem u6p (l : List Int) (hb : Byt l) : Fun 27 [.c (.ptr 0 0)] (kF [(0, some (70, .ds [D.sl (dI .u8 l) (ka0 l)]))]) 1 (.e (.agg [iC (eL l), .d (D.sl (dI .i64 (eK l)) (eD l)), .d (D.sl (kI (b9 l)) (ka0 (b9 l))), .d (D.sl (dI .i64 (eJ l)) (eC l))])) (kF [(0, some (70, .ds [D.sl (dI .u8 (boD l)) (ka0 (boD l))]))]) 1 := by
 refine Fun.mk (n := 89) Tryz.func27 rfl rfl (Nat.le_of_ble_eq_true rfl) ?_
 intro cx hcx
 refine kH [.no] True [(0, rV 0 0), (2, rV 1 0)] [(0, some (70, .ds [db l (ka0 l)])), (1, some (63, uQ))] 2 trivial ?_
 have hx1 : ((((((kD l 7) : Nat) : Int) < 7) ∨ ((kD l 7) = 0)) ∧ ((kD l 7) ≤ 255)) := q8 l (7 : Int) (qD : Byt l)
 have hx2 : (Byt (kC l 7)) := qH (7 : Int) (qD : Byt l)
 refine kH [.no, .call [0] (uV (kD l 7)) [(0, some (70, .ds [db (kC l 7) (ka0 (kC l 7))]))] 1 [] none, .w, .n2 (1 + (kD l 7)) 0, .no, .no, .no] ((_) ∧ (u3 (1 + (kD l 7 : Int))) ∧ (((1 + (kD l 7 : Int)) : Int) = (((1 + (kD l 7)) : Nat) : Int)) ∧ ((1 + (kD l 7)) ≤ 64)) [(0, rV 0 0), (2, rV 1 0), (3, rV 2 0)] [(0, some (70, .ds [db (kC l 7) (ka0 (kC l 7))])), (1, some (63, uQ)), (2, some (63, .ds [iD (IntKind.i64.wrap (1 * (((2 ^ (1 + (kD l 7))) : Nat) : Int))), qI, qI, qI]))] 3 ⟨(cQ l 7 (qD : Byt l)), ⟨by omega, by omega⟩, (by rfl), zo⟩ ?_
 refine AW.seq ?_
 have hx3 : ((((((kD (kC l 7) 3) : Nat) : Int) < 3) ∨ ((kD (kC l 7) 3) = 0)) ∧ ((kD (kC l 7) 3) ≤ 255)) := q8 (kC l 7) (3 : Int) (qD : Byt (kC l 7))
 have hx4 : (Byt (kC (kC l 7) 3)) := qH (3 : Int) (qD : Byt (kC l 7))
 refine kH [.no, .call [0] (uV (kD (kC l 7) 3)) [(0, some (70, .ds [db (kC (kC l 7) 3) (ka0 (kC (kC l 7) 3))]))] 1 [] none, .no] _ [(0, rV 0 0), (2, rV 1 0), (3, rV 2 0), (4, uV (kD (kC l 7) 3))] [(0, some (70, .ds [db (kC (kC l 7) 3) (ka0 (kC (kC l 7) 3))])), (1, some (63, uQ)), (2, some (63, .ds [iD (IntKind.i64.wrap (1 * (((2 ^ (1 + (kD l 7))) : Nat) : Int))), qI, qI, qI]))] 3 (cQ (kC l 7) 3 (qD : Byt (kC l 7))) ?_
 refine AW.block ?_
 refine k8 1 hcx (fun (x : {x : Nat × Int // match x with | (i, y) => (i ≤ kD (kC l 7) 3) ∧ (knK (kC (kC l 7) 3) (kbV l) i = y)}) => match x with | ⟨(i, y), _⟩ => (⟨[(0, rV 0 0), (2, rV 1 0), (3, rV 2 0), (4, iV ((kD (kC l 7) 3 : Int) - (i : Int)))], [(0, some (70, (lS l i))), (1, some (63, uQ)), (2, some (63, (lR y)))], 3⟩ : ES)) (fun x => match x with | ⟨(i, y), _⟩ => kD (kC l 7) 3 - i) ⟨((0 : Nat), ((IntKind.i64.wrap (1 * (((2 ^ (1 + (kD l 7))) : Nat) : Int))) : Int)), ⟨zo, rfl⟩⟩ [] (P := (kG 0) ∧ (kG 0) ∧ (kG 0) ∧ ((((kD (kC l 7) 3 : Int) - 0) : Int) = (kD (kC l 7) 3 : Int)) ∧ (([db (dL (kC (kC l 7) 3) 0) (ka0 (dL (kC (kC l 7) 3) 0))] : List D) = [db (kC (kC l 7) 3) (ka0 (kC (kC l 7) 3))]) ∧ (kJ [iD 0, qI, qI, qI]) ∧ (kJ [iD (IntKind.i64.wrap (1 * (((2 ^ (1 + (kD l 7))) : Nat) : Int))), qI, qI, qI])) zk ⟨rfl, rfl, rfl, (by rfl), (by rfl), rfl, rfl⟩ ?_
 rintro ⟨⟨i, y⟩, hinv0⟩
 obtain ⟨hi, hy⟩ : (i ≤ kD (kC l 7) 3) ∧ (knK (kC (kC l 7) 3) (kbV l) i = y) := hinv0
 refine qW (l := [(0, rV 0 0), (2, rV 1 0), (3, rV 2 0), (4, iV ((kD (kC l 7) 3 : Int) - (i : Int)))]) (g := [(0, some (70, (lS l i))), (1, some (63, uQ)), (2, some (63, (lR y)))]) (nx := 3) rfl rfl rfl ?_
 refine AW.seq ?_
 by_cases hx5 : ((0 : Int) < ((((kD (kC l 7) 3) : Nat) : Int) - ((i : Nat) : Int)))
 ·refine kH [.no, .b true] (((0 : Int) < ((kD (kC l 7) 3 : Int) - (i : Int)))) [(0, rV 0 0), (2, rV 1 0), (3, rV 2 0), (4, iV ((kD (kC l 7) 3 : Int) - ↑i)), (18, bV true)] [(0, some (70, (lS l i))), (1, some (63, uQ)), (2, some (63, (lR y)))] 3 zo ?_
  refine vL ?_
  refine AW.seq ?_
  refine AW.block ?_
  have hx6 : ((((((kD (dL (kC (kC l 7) 3) i) 7) : Nat) : Int) < 7) ∨ ((kD (dL (kC (kC l 7) 3) i) 7) = 0)) ∧ ((kD (dL (kC (kC l 7) 3) i) 7) ≤ 255)) := q8 (dL (kC (kC l 7) 3) i) (7 : Int) ((vW (qD : Byt (kC (kC l 7) 3)) _))
  have hx7 : (Byt (kC (dL (kC (kC l 7) 3) i) 7)) := qH (7 : Int) ((vW (qD : Byt (kC (kC l 7) 3)) _))
  refine aC [.no, .no, .no, .call [0] (iV (kD (dL (kC (kC l 7) 3) i) 7 : Int)) [(0, some (70, .ds [db (kC (dL (kC (kC l 7) 3) i) 7) (ka0 (kC (dL (kC (kC l 7) 3) i) 7))]))] 1 [] none, .w, .n2 (1 + (kD (dL (kC (kC l 7) 3) i) 7)) 0, .i (orI y (IntKind.i64.wrap (1 * (((2 ^ (1 + (kD (dL (kC (kC l 7) 3) i) 7))) : Nat) : Int)))), .no, .no] ((_) ∧ ((-9223372036854775808) ≤ (1 + (kD (dL (kC (kC l 7) 3) i) 7 : Int)) ∧ (1 + (kD (dL (kC (kC l 7) 3) i) 7 : Int)) ≤ 9223372036854775807) ∧ (((1 + (kD (dL (kC (kC l 7) 3) i) 7 : Int)) : Int) = (((1 + (kD (dL (kC (kC l 7) 3) i) 7)) : Nat) : Int)) ∧ ((1 + (kD (dL (kC (kC l 7) 3) i) 7)) ≤ 64) ∧ (qF .or .i64 y (IntKind.i64.wrap (1 * (((2 ^ (1 + (kD (dL (kC (kC l 7) 3) i) 7))) : Nat) : Int))) = (orI y (IntKind.i64.wrap (1 * (((2 ^ (1 + (kD (dL (kC (kC l 7) 3) i) 7))) : Nat) : Int)))))) [(0, rV 0 0), (2, rV 1 0), (3, rV 2 0), (4, iV ((kD (kC l 7) 3 : Int) - ↑i))] [(0, some (70, .ds [db (kC (dL (kC (kC l 7) 3) i) 7) (ka0 (kC (dL (kC (kC l 7) 3) i) 7))])), (1, some (63, uQ)), (2, some (63, .ds [iD (orI y (IntKind.i64.wrap (1 * (((2 ^ (1 + (kD (dL (kC (kC l 7) 3) i) 7))) : Nat) : Int)))), qI, qI, qI]))] 3 ⟨(cQ (dL (kC (kC l 7) 3) i) 7 (vW (qD : Byt (kC (kC l 7) 3)) _)), ⟨by omega, by omega⟩, (by rfl), zo, rfl⟩ ?_
  refine yA [.no, .w, .no] (u3 (((kD (kC l 7) 3 : Int) - (i : Int)) - 1)) [(0, rV 0 0), (2, rV 1 0), (3, rV 2 0), (4, iV (((kD (kC l 7) 3 : Int) - ↑i) - 1))] ⟨by omega, by omega⟩ ?_
  exact kW ⟨(((i + 1) : Nat), ((orI y (IntKind.i64.wrap (1 * (((2 ^ (1 + (kD (dL (kC (kC l 7) 3) i) 7))) : Nat) : Int)))) : Int)), ⟨zo, (v5j hy rfl)⟩⟩ [] (P := (kG 0) ∧ (kG 0) ∧ (kG 0) ∧ ((((kD (kC l 7) 3 : Int) - (((i + 1) : Nat) : Int)) : Int) = (((kD (kC l 7) 3 : Int) - (i : Int)) - 1)) ∧ (([db (dL (kC (kC l 7) 3) (i + 1)) (ka0 (dL (kC (kC l 7) 3) (i + 1)))] : List D) = [db (kC (dL (kC (kC l 7) 3) i) 7) (ka0 (kC (dL (kC (kC l 7) 3) i) 7))]) ∧ (kJ [iD 0, qI, qI, qI]) ∧ (kJ [iD (orI y (IntKind.i64.wrap (1 * (((2 ^ (1 + (kD (dL (kC (kC l 7) 3) i) 7))) : Nat) : Int)))), qI, qI, qI])) zk ⟨rfl, rfl, rfl, zo, (by rfl), rfl, rfl⟩ (show kD (kC l 7) 3 - (i + 1) < kD (kC l 7) 3 - i from zo)
 ·refine kH [.no, .b false] (¬ ((0 : Int) < ((kD (kC l 7) 3 : Int) - (i : Int)))) [(0, rV 0 0), (2, rV 1 0), (3, rV 2 0), (4, iV ((kD (kC l 7) 3 : Int) - ↑i)), (18, bV false)] [(0, some (70, (lS l i))), (1, some (63, uQ)), (2, some (63, (lR y)))] 3 zo ?_
  refine zf ?_
  refine AW.exit ?_
  obtain rfl : i = (kD (kC l 7) 3) := (by omega)
  refine kH (qE 6 [(.fz (.no)), .call [0] (.e (.agg [.d (dl (vD l) (vI (aN qY (qX l) 5) (aG qY (qX l) 5)))])) [(0, some (70, .ds [db (kL l) (ka0 (kL l))]))] 1 [] none, .no, .no]) ((([iD 44100, iD 44100, iD 48000, iD 48000, iD 8000, iD 8000, iD 32000, iD 50000, iD 96000, iD 192000] : List D).length = 5 * 2) ∧ (_)) [(0, rV 0 0), (2, rV 1 0), (3, rV 2 0)] [(0, some (70, .ds [db (kL l) (ka0 (kL l))])), (1, some (63, uQ)), (2, some (63, .ds [iD y, dl (vD l) (vI (aN qY (qX l) 5) (aG qY (qX l) 5)), qI, qI]))] 4 ⟨mD, (u6q qY 5 (qX l) (by (simp only [qB, qA, ka8, kb0, kb2, kb4, kb6, kb5, kc1] <;> omega)) zo zo (vW (qD : Byt (kC (kC l 7) 3)) _))⟩ ?_
  refine kH (qE 5 [(.fz (.no)), .call [0] (.e (.agg [.d (dl (vO l) (vI (aN kP (kL l) 4) (aG kP (kL l) 4)))])) [(0, some (70, .ds [db (yV kP (kL l) 4) (ka0 (yV kP (kL l) 4))]))] 1 [] none, .no, .no]) ((([iD 16, iD 64, iD 64, iD 1024, iD 2048, iD 2048, iD 1, iD 65536] : List D).length = 4 * 2) ∧ (_)) [(0, rV 0 0), (2, rV 1 0), (3, rV 2 0)] [(0, some (70, .ds [db (yV kP (kL l) 4) (ka0 (yV kP (kL l) 4))])), (1, some (63, uQ)), (2, some (63, .ds [iD y, dl (vD l) (vI (aN qY (qX l) 5) (aG qY (qX l) 5)), qI, dl (vO l) (vI (aN kP (kL l) 4) (aG kP (kL l) 4))]))] 5 ⟨mD, (u6q kP 4 (kL l) (by (simp only [qB, qA, ka8, kb0, kb2, kb4, kb6, kb5, kc1] <;> omega)) zo zo (aE (vW (qD : Byt (kC (kC l 7) 3)) _)))⟩ ?_
  refine AW.seq ?_
  have hx8 : ((((((kD (yV kP (kL l) 4) 3) : Nat) : Int) < 3) ∨ ((kD (yV kP (kL l) 4) 3) = 0)) ∧ ((kD (yV kP (kL l) 4) 3) ≤ 255)) := q8 (yV kP (kL l) 4) (3 : Int) ((aE (aE (vW (qD : Byt (kC (kC l 7) 3)) _))))
  have hx9 : (Byt (yH l)) := qH (3 : Int) ((aE (aE (vW (qD : Byt (kC (kC l 7) 3)) _))))
  refine kH [.no, .call [0] (uV (kD (yV kP (kL l) 4) 3)) [(0, some (70, .ds [db (yH l) (ka0 (yH l))]))] 1 [] none, .w, .no] ((_) ∧ (u3 (1 + (kD (yV kP (kL l) 4) 3 : Int)))) [(0, rV 0 0), (2, rV 1 0), (3, rV 2 0), (5, iV (1 + (kD (yV kP (kL l) 4) 3 : Int)))] [(0, some (70, .ds [db (yH l) (ka0 (yH l))])), (1, some (63, uQ)), (2, some (63, .ds [iD y, dl (vD l) (vI (aN qY (qX l) 5) (aG qY (qX l) 5)), qI, dl (vO l) (vI (aN kP (kL l) 4) (aG kP (kL l) 4))]))] 5 ⟨(cQ (yV kP (kL l) 4) 3 (aE (aE (vW (qD : Byt (kC (kC l 7) 3)) _)))), ⟨by omega, by omega⟩⟩ ?_
  refine AW.block ?_
  refine k4v 2 2 1 38 (cs' := [iC y, .d (dl (vD l) (vI (aN qY (qX l) 5) (aG qY (qX l) 5))), .own 5 0 0 1 true, .d (dl (vO l) (vI (aN kP (kL l) 4) (aG kP (kL l) 4)))]) rfl rfl rfl ?_
  refine k8 1 hcx (fun (x : {x : Nat × Nat × List (List Int) // match x with | (i2, q, ms) => (i2 ≤ 1 + kD (yV kP (kL l) 4) 3) ∧ (nX (yH l) i2 = ms) ∧ (ka0 ms = q ∧ q ≤ i2) ∧ (MsN ms) ∧ (MsW ms)}) => match x with | ⟨(i2, q, ms), _⟩ => (⟨[(0, rV 0 0), (2, rV 1 0), (3, rV 2 0), (5, iV ((((1 + (kD (yV kP (kL l) 4) 3)) : Nat) : Int) - (i2 : Int)))], [(0, some (70, .ds [db (kO l i2) (ka0 (kO l i2))])), (1, some (63, uQ)), (2, some (63, (v8 y l q))), (6, some (38, .ds (kI ms)))], 7⟩ : ES)) (fun x => match x with | ⟨(i2, q, ms), _⟩ => 1 + kD (yV kP (kL l) 4) 3 - i2) ⟨((0 : Nat), (0 : Nat), (([] : List (List Int)) : List (List Int))), ⟨zo, rfl, ⟨rfl, by omega⟩, MsN.nil, MsW.nil⟩⟩ [(6, 5)] (P := (kG 0) ∧ (kG 0) ∧ (kG 0) ∧ ((((((1 + (kD (yV kP (kL l) 4) 3)) : Nat) : Int) - 0) : Int) = (1 + (kD (yV kP (kL l) 4) 3 : Int))) ∧ (([db (nY (yH l) 0) (ka0 (nY (yH l) 0))] : List D) = [db (yH l) (ka0 (yH l))]) ∧ (kJ [iD 0, qI, qI, qI]) ∧ (kM y) ∧ (kJ (dI .i64 (vD l))) ∧ (kG (vI (aN qY (qX l) 5) (aG qY (qX l) 5))) ∧ (kG 0) ∧ (kG 0) ∧ (kJ (dI .i64 (vO l))) ∧ (kG (vI (aN kP (kL l) 4) (aG kP (kL l) 4))) ∧ (((kI ([] : List (List Int))) : List D) = ([] : List D))) zk ⟨rfl, rfl, rfl, (by rfl), (by rfl), rfl, rfl, rfl, rfl, rfl, rfl, rfl, rfl, (by rfl)⟩ ?_
  rintro ⟨⟨i2, q, ms⟩, hinv1⟩
  obtain ⟨hi2, hm, hq, hN, hW⟩ : (i2 ≤ 1 + kD (yV kP (kL l) 4) 3) ∧ (nX (yH l) i2 = ms) ∧ (ka0 ms = q ∧ q ≤ i2) ∧ (MsN ms) ∧ (MsW ms) := hinv1
  refine qW (l := [(0, rV 0 0), (2, rV 1 0), (3, rV 2 0), (5, iV ((((1 + (kD (yV kP (kL l) 4) 3)) : Nat) : Int) - (i2 : Int)))]) (g := [(0, some (70, .ds [db (kO l i2) (ka0 (kO l i2))])), (1, some (63, uQ)), (2, some (63, (v8 y l q))), (6, some (38, .ds (kI ms)))]) (nx := 7) rfl rfl rfl ?_
  refine AW.seq ?_
  by_cases hx10 : ((0 : Int) < ((((1 + (kD (yV kP (kL l) 4) 3)) : Nat) : Int) - ((i2 : Nat) : Int)))
  ·refine kH [.no, .b true] (((0 : Int) < ((((1 + (kD (yV kP (kL l) 4) 3)) : Nat) : Int) - (i2 : Int)))) [(0, rV 0 0), (2, rV 1 0), (3, rV 2 0), (5, iV ((((1 + (kD (yV kP (kL l) 4) 3)) : Nat) : Int) - ↑i2)), (50, bV true)] [(0, some (70, .ds [db (kO l i2) (ka0 (kO l i2))])), (1, some (63, uQ)), (2, some (63, (v8 y l q))), (6, some (38, .ds (kI ms)))] 7 zo ?_
   refine vL ?_
   refine AW.seq ?_
   refine AW.block ?_
   have hx11 : (((1 : Nat) ≤ (ka0 (yC (kO l i2)))) ∧ ((ka0 (yC (kO l i2))) ≤ 6)) := (u23 ((iH (qD : Byt (yH l)) _)))
   refine kH [.no, .call [0] (sV .i64 (yC (kO l i2)) (ka0 (yC (kO l i2)))) [(0, some (70, (vT l i2)))] 1 [] none, .no] _ [(0, rV 0 0), (2, rV 1 0), (3, rV 2 0), (5, iV ((((1 + (kD (yV kP (kL l) 4) 3)) : Nat) : Int) - ↑i2)), (6, sV .i64 (yC (kO l i2)) (ka0 (yC (kO l i2))))] [(0, some (70, (vT l i2))), (1, some (63, uQ)), (2, some (63, (v8 y l q))), (6, some (38, .ds (kI ms)))] 7 (v3v (kO l i2) (iH (qD : Byt (yH l)) _)) ?_
   refine kS [.no] True [(0, rV 0 0), (2, rV 1 0), (3, rV 2 0), (5, iV ((((1 + (kD (yV kP (kL l) 4) 3)) : Nat) : Int) - ↑i2)), (6, sV .i64 (yC (kO l i2)) (ka0 (yC (kO l i2)))), (7, bV false)] trivial ?_
   refine AW.seq ?_
   refine kS (qE 4 []) True [(0, rV 0 0), (2, rV 1 0), (3, rV 2 0), (5, iV ((((1 + (kD (yV kP (kL l) 4) 3)) : Nat) : Int) - ↑i2)), (6, sV .i64 (yC (kO l i2)) (ka0 (yC (kO l i2)))), (7, bV false), (56, oV 6 0 q 1), (57, uV q), (58, iV 0)] trivial ?_
   refine AW.block ?_
   refine k8 1 hcx (fun (x : {x : Nat × Bool // match x with | (j, f) => (j ≤ q) ∧ (nW (ka5 j ms) (yC (kO l i2)) = f)}) => match x with | ⟨(j, f), _⟩ => (⟨[(0, rV 0 0), (2, rV 1 0), (3, rV 2 0), (5, iV ((((1 + (kD (yV kP (kL l) 4) 3)) : Nat) : Int) - (i2 : Int))), (6, sV .i64 (yC (kO l i2)) (ka0 (yC (kO l i2)))), (7, uW (D.lit (.bool (f)))), (56, oV 6 0 q 1), (57, uV q), (58, uV j)], [(0, some (70, (vT l i2))), (1, some (63, uQ)), (2, some (63, (v8 y l q))), (6, some (38, .ds (kI ms)))], 7⟩ : ES)) (fun x => match x with | ⟨(j, f), _⟩ => q - j) ⟨((0 : Nat), (false : Bool)), ⟨zo, (v4b _ _)⟩⟩ [] (P := (kG 0) ∧ (kG 0) ∧ (kG 0) ∧ (kM ((((1 + (kD (yV kP (kL l) 4) 3)) : Nat) : Int) - (i2 : Int))) ∧ (kJ (dI .i64 (yC (kO l i2)))) ∧ (kG (ka0 (yC (kO l i2)))) ∧ ((false) = false) ∧ (kG 0) ∧ (kG q) ∧ (kM (q : Int)) ∧ (kM 0) ∧ (kJ [db (kC (kO l i2) 7) (ka0 (kC (kO l i2) 7))]) ∧ (kJ [iD 0, qI, qI, qI]) ∧ (kM y) ∧ (kJ (dI .i64 (vD l))) ∧ (kG (vI (aN qY (qX l) 5) (aG qY (qX l) 5))) ∧ (kG 0) ∧ (kG q) ∧ (kJ (dI .i64 (vO l))) ∧ (kG (vI (aN kP (kL l) 4) (aG kP (kL l) 4))) ∧ (kJ (kI ms))) zk ⟨rfl, rfl, rfl, rfl, rfl, rfl, (by rfl), rfl, rfl, rfl, rfl, rfl, rfl, rfl, rfl, rfl, rfl, rfl, rfl, rfl, rfl⟩ ?_
   rintro ⟨⟨j, f⟩, hinv2⟩
   obtain ⟨hj, hf⟩ : (j ≤ q) ∧ (nW (ka5 j ms) (yC (kO l i2)) = f) := hinv2
   refine qW (l := [(0, rV 0 0), (2, rV 1 0), (3, rV 2 0), (5, iV ((((1 + (kD (yV kP (kL l) 4) 3)) : Nat) : Int) - (i2 : Int))), (6, sV .i64 (yC (kO l i2)) (ka0 (yC (kO l i2)))), (7, uW (D.lit (.bool (f)))), (56, oV 6 0 q 1), (57, uV q), (58, uV j)]) (g := [(0, some (70, (vT l i2))), (1, some (63, uQ)), (2, some (63, (v8 y l q))), (6, some (38, .ds (kI ms)))]) (nx := 7) rfl rfl rfl ?_
   by_cases hx12 : (((j : Nat) : Int) < ((q : Nat) : Int))
   ·refine kH [.b true] (((j : Int) < (q : Int))) [(0, rV 0 0), (2, rV 1 0), (3, rV 2 0), (5, iV ((((1 + (kD (yV kP (kL l) 4) 3)) : Nat) : Int) - ↑i2)), (6, sV .i64 (yC (kO l i2)) (ka0 (yC (kO l i2)))), (7, uW (D.lit (.bool (f)))), (56, oV 6 0 q 1), (57, uV q), (58, uV j), (59, bV true)] [(0, some (70, (vT l i2))), (1, some (63, uQ)), (2, some (63, (v8 y l q))), (6, some (38, .ds (kI ms)))] 7 zo ?_
    refine AW.seq ?_
    refine vL ?_
    refine AW.seq ?_
    refine AW.block ?_
    have hx13 : ((ka0 (ka1 ms j ([] : List Int))) ≤ 1000000) := MsW.at (qD : MsW ms) _
    refine kS [.n2 j j, .d (dl (ka1 ms j ([] : List Int)) (ka0 (ka1 ms j ([] : List Int)))), .no] ((kM (j : Int)) ∧ (j < q) ∧ ((0 : Nat) + j * 1 = j) ∧ ((kI ms)[j]? = some (dl (ka1 ms j ([] : List Int)) (ka0 (ka1 ms j ([] : List Int)))))) [(0, rV 0 0), (2, rV 1 0), (3, rV 2 0), (5, iV ((((1 + (kD (yV kP (kL l) 4) 3)) : Nat) : Int) - ↑i2)), (6, sV .i64 (yC (kO l i2)) (ka0 (yC (kO l i2)))), (7, uW (D.lit (.bool (f)))), (9, sV .i64 (ka1 ms j ([] : List Int)) (ka0 (ka1 ms j ([] : List Int)))), (56, oV 6 0 q 1), (57, uV q), (58, uV j)] ⟨rfl, zo, zo, (u20 _ _ zo)⟩ ?_
    rcases Bool.eq_false_or_eq_true (f) with hx15 | hx15
    ·subst hx15
     have hx16 : 1 ≤ ka0 (ka1 ms j ([] : List Int)) := hN.at zo
     refine aC (qE 4 []) True [(0, rV 0 0), (2, rV 1 0), (3, rV 2 0), (5, iV ((((1 + (kD (yV kP (kL l) 4) 3)) : Nat) : Int) - ↑i2)), (6, sV .i64 (yC (kO l i2)) (ka0 (yC (kO l i2)))), (7, bV true), (56, oV 6 0 q 1), (57, uV q), (58, uV j)] [(0, some (70, (vT l i2))), (1, some (63, uQ)), (2, some (63, (v8 y l q))), (6, some (38, .ds (kI ms)))] 7 trivial ?_
     refine yA [.w, .no] (u3 ((j : Int) + 1)) [(0, rV 0 0), (2, rV 1 0), (3, rV 2 0), (5, iV ((((1 + (kD (yV kP (kL l) 4) 3)) : Nat) : Int) - ↑i2)), (6, sV .i64 (yC (kO l i2)) (ka0 (yC (kO l i2)))), (7, bV true), (56, oV 6 0 q 1), (57, uV q), (58, iV (↑j + 1))] ⟨by omega, by omega⟩ ?_
     exact kW ⟨(((j + 1) : Nat), (true : Bool)), ⟨zo, (by exact v49 zo hf)⟩⟩ [] (P := (kG 0) ∧ (kG 0) ∧ (kG 0) ∧ (kM ((((1 + (kD (yV kP (kL l) 4) 3)) : Nat) : Int) - (i2 : Int))) ∧ (kJ (dI .i64 (yC (kO l i2)))) ∧ (kG (ka0 (yC (kO l i2)))) ∧ ((true) = true) ∧ (kG 0) ∧ (kG q) ∧ (kM (q : Int)) ∧ (bU j) ∧ (kJ [db (kC (kO l i2) 7) (ka0 (kC (kO l i2) 7))]) ∧ (kJ [iD 0, qI, qI, qI]) ∧ (kM y) ∧ (kJ (dI .i64 (vD l))) ∧ (kG (vI (aN qY (qX l) 5) (aG qY (qX l) 5))) ∧ (kG 0) ∧ (kG q) ∧ (kJ (dI .i64 (vO l))) ∧ (kG (vI (aN kP (kL l) 4) (aG kP (kL l) 4))) ∧ (kJ (kI ms))) zk ⟨rfl, rfl, rfl, rfl, rfl, rfl, (by rfl), rfl, rfl, rfl, (by rfl), rfl, rfl, rfl, rfl, rfl, rfl, rfl, rfl, rfl, rfl⟩ (show q - (j + 1) < q - j from zo)
    ·subst hx15
     by_cases hx18 : ((((ka0 (ka1 ms j ([] : List Int))) : Nat) : Int) = (((ka0 (yC (kO l i2))) : Nat) : Int))
     ·by_cases hx20 : ((ka1 (ka1 ms j ([] : List Int)) 0 0) = (ka1 (yC (kO l i2)) 0 0))
      ·have hx21 : 1 ≤ ka0 (ka1 ms j ([] : List Int)) := hN.at zo
       refine aC (qE 6 [.b true, .no, .no, .n 0, .d (D.lit (.int .i64 (ka1 (ka1 ms j ([] : List Int)) 0 0))), .no, .n 0, .d (D.lit (.int .i64 (ka1 (yC (kO l i2)) 0 0))), .b true, .no, .no, .no]) ((((((ka0 (ka1 ms j ([] : List Int))) : Nat) : Int) = (ka0 (yC (kO l i2)) : Int))) ∧ (kM 0) ∧ ((0 : Nat) < (ka0 (ka1 ms j ([] : List Int)))) ∧ ((ka3 0 (dI .i64 (ka1 ms j ([] : List Int))))[0]? = some (D.lit (.int .i64 (ka1 (ka1 ms j ([] : List Int)) 0 0)))) ∧ (kM 0) ∧ ((0 : Nat) < (ka0 (yC (kO l i2)))) ∧ ((ka3 0 (dI .i64 (yC (kO l i2))))[0]? = some (D.lit (.int .i64 (ka1 (yC (kO l i2)) 0 0)))) ∧ (((ka1 (ka1 ms j ([] : List Int)) 0 0) = (ka1 (yC (kO l i2)) 0 0)))) [(0, rV 0 0), (2, rV 1 0), (3, rV 2 0), (5, iV ((((1 + (kD (yV kP (kL l) 4) 3)) : Nat) : Int) - ↑i2)), (6, sV .i64 (yC (kO l i2)) (ka0 (yC (kO l i2)))), (7, bV true), (56, oV 6 0 q 1), (57, uV q), (58, uV j)] [(0, some (70, (vT l i2))), (1, some (63, uQ)), (2, some (63, (v8 y l q))), (6, some (38, .ds (kI ms)))] 7 ⟨zo, rfl, zo, (yF _ _ _ zo), rfl, zo, (yF _ _ _ zo), zo⟩ ?_
       refine yA [.w, .no] (u3 ((j : Int) + 1)) [(0, rV 0 0), (2, rV 1 0), (3, rV 2 0), (5, iV ((((1 + (kD (yV kP (kL l) 4) 3)) : Nat) : Int) - ↑i2)), (6, sV .i64 (yC (kO l i2)) (ka0 (yC (kO l i2)))), (7, bV true), (56, oV 6 0 q 1), (57, uV q), (58, iV (↑j + 1))] ⟨by omega, by omega⟩ ?_
       exact kW ⟨(((j + 1) : Nat), (true : Bool)), ⟨zo, (by exact v4a zo zo)⟩⟩ [] (P := (kG 0) ∧ (kG 0) ∧ (kG 0) ∧ (kM ((((1 + (kD (yV kP (kL l) 4) 3)) : Nat) : Int) - (i2 : Int))) ∧ (kJ (dI .i64 (yC (kO l i2)))) ∧ (kG (ka0 (yC (kO l i2)))) ∧ ((true) = true) ∧ (kG 0) ∧ (kG q) ∧ (kM (q : Int)) ∧ (bU j) ∧ (kJ [db (kC (kO l i2) 7) (ka0 (kC (kO l i2) 7))]) ∧ (kJ [iD 0, qI, qI, qI]) ∧ (kM y) ∧ (kJ (dI .i64 (vD l))) ∧ (kG (vI (aN qY (qX l) 5) (aG qY (qX l) 5))) ∧ (kG 0) ∧ (kG q) ∧ (kJ (dI .i64 (vO l))) ∧ (kG (vI (aN kP (kL l) 4) (aG kP (kL l) 4))) ∧ (kJ (kI ms))) zk ⟨rfl, rfl, rfl, rfl, rfl, rfl, (by rfl), rfl, rfl, rfl, (by rfl), rfl, rfl, rfl, rfl, rfl, rfl, rfl, rfl, rfl, rfl⟩ (show q - (j + 1) < q - j from zo)
      ·have hx22 : 1 ≤ ka0 (ka1 ms j ([] : List Int)) := hN.at zo
       refine aC (qE 6 [.b true, .no, .no, .n 0, .d (D.lit (.int .i64 (ka1 (ka1 ms j ([] : List Int)) 0 0))), .no, .n 0, .d (D.lit (.int .i64 (ka1 (yC (kO l i2)) 0 0))), .b false, .no, .no, .no]) ((((((ka0 (ka1 ms j ([] : List Int))) : Nat) : Int) = (ka0 (yC (kO l i2)) : Int))) ∧ (kM 0) ∧ ((0 : Nat) < (ka0 (ka1 ms j ([] : List Int)))) ∧ ((ka3 0 (dI .i64 (ka1 ms j ([] : List Int))))[0]? = some (D.lit (.int .i64 (ka1 (ka1 ms j ([] : List Int)) 0 0)))) ∧ (kM 0) ∧ ((0 : Nat) < (ka0 (yC (kO l i2)))) ∧ ((ka3 0 (dI .i64 (yC (kO l i2))))[0]? = some (D.lit (.int .i64 (ka1 (yC (kO l i2)) 0 0)))) ∧ (¬ ((ka1 (ka1 ms j ([] : List Int)) 0 0) = (ka1 (yC (kO l i2)) 0 0)))) [(0, rV 0 0), (2, rV 1 0), (3, rV 2 0), (5, iV ((((1 + (kD (yV kP (kL l) 4) 3)) : Nat) : Int) - ↑i2)), (6, sV .i64 (yC (kO l i2)) (ka0 (yC (kO l i2)))), (7, bV false), (56, oV 6 0 q 1), (57, uV q), (58, uV j)] [(0, some (70, (vT l i2))), (1, some (63, uQ)), (2, some (63, (v8 y l q))), (6, some (38, .ds (kI ms)))] 7 ⟨zo, rfl, zo, (yF _ _ _ zo), rfl, zo, (yF _ _ _ zo), zo⟩ ?_
       refine yA [.w, .no] (u3 ((j : Int) + 1)) [(0, rV 0 0), (2, rV 1 0), (3, rV 2 0), (5, iV ((((1 + (kD (yV kP (kL l) 4) 3)) : Nat) : Int) - ↑i2)), (6, sV .i64 (yC (kO l i2)) (ka0 (yC (kO l i2)))), (7, bV false), (56, oV 6 0 q 1), (57, uV q), (58, iV (↑j + 1))] ⟨by omega, by omega⟩ ?_
       exact kW ⟨(((j + 1) : Nat), (false : Bool)), ⟨zo, (by exact v01 zo hf zo)⟩⟩ [] (P := (kG 0) ∧ (kG 0) ∧ (kG 0) ∧ (kM ((((1 + (kD (yV kP (kL l) 4) 3)) : Nat) : Int) - (i2 : Int))) ∧ (kJ (dI .i64 (yC (kO l i2)))) ∧ (kG (ka0 (yC (kO l i2)))) ∧ ((false) = false) ∧ (kG 0) ∧ (kG q) ∧ (kM (q : Int)) ∧ (bU j) ∧ (kJ [db (kC (kO l i2) 7) (ka0 (kC (kO l i2) 7))]) ∧ (kJ [iD 0, qI, qI, qI]) ∧ (kM y) ∧ (kJ (dI .i64 (vD l))) ∧ (kG (vI (aN qY (qX l) 5) (aG qY (qX l) 5))) ∧ (kG 0) ∧ (kG q) ∧ (kJ (dI .i64 (vO l))) ∧ (kG (vI (aN kP (kL l) 4) (aG kP (kL l) 4))) ∧ (kJ (kI ms))) zk ⟨rfl, rfl, rfl, rfl, rfl, rfl, (by rfl), rfl, rfl, rfl, (by rfl), rfl, rfl, rfl, rfl, rfl, rfl, rfl, rfl, rfl, rfl⟩ (show q - (j + 1) < q - j from zo)
     ·have hx23 : 1 ≤ ka0 (ka1 ms j ([] : List Int)) := hN.at zo
      refine aC (qE 6 (.b false :: qE 4 [])) (¬ ((((ka0 (ka1 ms j ([] : List Int))) : Nat) : Int) = (ka0 (yC (kO l i2)) : Int))) [(0, rV 0 0), (2, rV 1 0), (3, rV 2 0), (5, iV ((((1 + (kD (yV kP (kL l) 4) 3)) : Nat) : Int) - ↑i2)), (6, sV .i64 (yC (kO l i2)) (ka0 (yC (kO l i2)))), (7, bV false), (56, oV 6 0 q 1), (57, uV q), (58, uV j)] [(0, some (70, (vT l i2))), (1, some (63, uQ)), (2, some (63, (v8 y l q))), (6, some (38, .ds (kI ms)))] 7 zo ?_
      refine yA [.w, .no] (u3 ((j : Int) + 1)) [(0, rV 0 0), (2, rV 1 0), (3, rV 2 0), (5, iV ((((1 + (kD (yV kP (kL l) 4) 3)) : Nat) : Int) - ↑i2)), (6, sV .i64 (yC (kO l i2)) (ka0 (yC (kO l i2)))), (7, bV false), (56, oV 6 0 q 1), (57, uV q), (58, iV (↑j + 1))] ⟨by omega, by omega⟩ ?_
      exact kW ⟨(((j + 1) : Nat), (false : Bool)), ⟨zo, (by exact v01 zo hf zo)⟩⟩ [] (P := (kG 0) ∧ (kG 0) ∧ (kG 0) ∧ (kM ((((1 + (kD (yV kP (kL l) 4) 3)) : Nat) : Int) - (i2 : Int))) ∧ (kJ (dI .i64 (yC (kO l i2)))) ∧ (kG (ka0 (yC (kO l i2)))) ∧ ((false) = false) ∧ (kG 0) ∧ (kG q) ∧ (kM (q : Int)) ∧ (bU j) ∧ (kJ [db (kC (kO l i2) 7) (ka0 (kC (kO l i2) 7))]) ∧ (kJ [iD 0, qI, qI, qI]) ∧ (kM y) ∧ (kJ (dI .i64 (vD l))) ∧ (kG (vI (aN qY (qX l) 5) (aG qY (qX l) 5))) ∧ (kG 0) ∧ (kG q) ∧ (kJ (dI .i64 (vO l))) ∧ (kG (vI (aN kP (kL l) 4) (aG kP (kL l) 4))) ∧ (kJ (kI ms))) zk ⟨rfl, rfl, rfl, rfl, rfl, rfl, (by rfl), rfl, rfl, rfl, (by rfl), rfl, rfl, rfl, rfl, rfl, rfl, rfl, rfl, rfl, rfl⟩ (show q - (j + 1) < q - j from zo)
   ·refine kH [.b false] (¬ ((j : Int) < (q : Int))) [(0, rV 0 0), (2, rV 1 0), (3, rV 2 0), (5, iV ((((1 + (kD (yV kP (kL l) 4) 3)) : Nat) : Int) - ↑i2)), (6, sV .i64 (yC (kO l i2)) (ka0 (yC (kO l i2)))), (7, uW (D.lit (.bool (f)))), (56, oV 6 0 q 1), (57, uV q), (58, uV j), (59, bV false)] [(0, some (70, (vT l i2))), (1, some (63, uQ)), (2, some (63, (v8 y l q))), (6, some (38, .ds (kI ms)))] 7 zo ?_
    refine AW.seq ?_
    refine zf ?_
    refine AW.exit ?_
    rcases Bool.eq_false_or_eq_true (f) with hx24 | hx24
    ·subst hx24
     refine kH [.no, .no] True [(0, rV 0 0), (2, rV 1 0), (3, rV 2 0), (5, iV ((((1 + (kD (yV kP (kL l) 4) 3)) : Nat) : Int) - ↑i2)), (6, sV .i64 (yC (kO l i2)) (ka0 (yC (kO l i2)))), (81, bV false)] [(0, some (70, (vT l i2))), (1, some (63, uQ)), (2, some (63, (v8 y l q))), (6, some (38, .ds (kI ms)))] 7 trivial ?_
     refine uO ?_
     refine yA [.no, .w, .no] ((-9223372036854775808) ≤ (((((1 + (kD (yV kP (kL l) 4) 3)) : Nat) : Int) - (i2 : Int)) - 1) ∧ (((((1 + (kD (yV kP (kL l) 4) 3)) : Nat) : Int) - (i2 : Int)) - 1) ≤ 9223372036854775807) [(0, rV 0 0), (2, rV 1 0), (3, rV 2 0), (5, iV (((((1 + (kD (yV kP (kL l) 4) 3)) : Nat) : Int) - ↑i2) - 1))] ⟨by omega, by omega⟩ ?_
     exact kW ⟨(((i2 + 1) : Nat), (q : Nat), (ms : List (List Int))), ⟨zo, (by exact v5f hm (k57 hq.1 zo hf)), zo, (by assumption), (by assumption)⟩⟩ [] (P := (kG 0) ∧ (kG 0) ∧ (kG 0) ∧ ((((((1 + (kD (yV kP (kL l) 4) 3)) : Nat) : Int) - (((i2 + 1) : Nat) : Int)) : Int) = (((((1 + (kD (yV kP (kL l) 4) 3)) : Nat) : Int) - (i2 : Int)) - 1)) ∧ (([db (nY (yH l) (i2 + 1)) (ka0 (nY (yH l) (i2 + 1)))] : List D) = [db (kC (kO l i2) 7) (ka0 (kC (kO l i2) 7))]) ∧ (kJ [iD 0, qI, qI, qI]) ∧ (kM y) ∧ (kJ (dI .i64 (vD l))) ∧ (kG (vI (aN qY (qX l) 5) (aG qY (qX l) 5))) ∧ (kG 0) ∧ (kG q) ∧ (kJ (dI .i64 (vO l))) ∧ (kG (vI (aN kP (kL l) 4) (aG kP (kL l) 4))) ∧ (kJ (kI ms))) zk ⟨rfl, rfl, rfl, zo, (by rfl), rfl, rfl, rfl, rfl, rfl, rfl, rfl, rfl, rfl⟩ (show 1 + kD (yV kP (kL l) 4) 3 - (i2 + 1) < 1 + kD (yV kP (kL l) 4) 3 - i2 from zo)
    ·subst hx24
     refine kH [.no, .no] True [(0, rV 0 0), (2, rV 1 0), (3, rV 2 0), (5, iV ((((1 + (kD (yV kP (kL l) 4) 3)) : Nat) : Int) - ↑i2)), (6, sV .i64 (yC (kO l i2)) (ka0 (yC (kO l i2)))), (81, bV true)] [(0, some (70, (vT l i2))), (1, some (63, uQ)), (2, some (63, (v8 y l q))), (6, some (38, .ds (kI ms)))] 7 trivial ?_
     refine zt ?_
     refine aC (qE 4 [.ap none (q + 1) (kI (ms ++ ([(yC (kO l i2))] : List (List Int)))), .no, .no]) (([dl (yC (kO l i2)) (ka0 (yC (kO l i2)))].length = 1 * 1) ∧ (((kI ms) : List D).length = q * 1) ∧ ((q + 1) * 24 ≤ 140737488355328) ∧ (q + 1 = (q + 1)) ∧ (((kI ms) : List D) ++ [dl (yC (kO l i2)) (ka0 (yC (kO l i2)))] = (kI (ms ++ ([(yC (kO l i2))] : List (List Int)))))) [(0, rV 0 0), (2, rV 1 0), (3, rV 2 0), (5, iV ((((1 + (kD (yV kP (kL l) 4) 3)) : Nat) : Int) - ↑i2))] [(0, some (70, (vT l i2))), (1, some (63, uQ)), (2, some (63, .cs [iC y, .d (dl (vD l) (vI (aN qY (qX l) 5) (aG qY (qX l) 5))), .own 8 0 (q + 1) 1 true, .d (dl (vO l) (vI (aN kP (kL l) 4) (aG kP (kL l) 4)))])), (8, some (38, .ds (kI (ms ++ ([(yC (kO l i2))] : List (List Int))))))] 9 ⟨mD, mD, zo, zo, (sA ms (yC (kO l i2)) (ka0 (yC (kO l i2))) (by rfl))⟩ ?_
     refine yA [.no, .w, .no] ((-9223372036854775808) ≤ (((((1 + (kD (yV kP (kL l) 4) 3)) : Nat) : Int) - (i2 : Int)) - 1) ∧ (((((1 + (kD (yV kP (kL l) 4) 3)) : Nat) : Int) - (i2 : Int)) - 1) ≤ 9223372036854775807) [(0, rV 0 0), (2, rV 1 0), (3, rV 2 0), (5, iV (((((1 + (kD (yV kP (kL l) 4) 3)) : Nat) : Int) - ↑i2) - 1))] ⟨by omega, by omega⟩ ?_
     exact kW ⟨(((i2 + 1) : Nat), ((q + 1) : Nat), ((ms ++ ([(yC (kO l i2))] : List (List Int))) : List (List Int))), ⟨zo, (by exact v5g hm (k57 hq.1 zo hf)), (by (simp only [qB, qA, ka8, kb0, kb2] <;> omega)), (by exact hN.snoc zo), (by exact hW.snoc (Nat.le_trans (k0g _) zo))⟩⟩ [(6, 8)] (P := (kG 0) ∧ (kG 0) ∧ (kG 0) ∧ ((((((1 + (kD (yV kP (kL l) 4) 3)) : Nat) : Int) - (((i2 + 1) : Nat) : Int)) : Int) = (((((1 + (kD (yV kP (kL l) 4) 3)) : Nat) : Int) - (i2 : Int)) - 1)) ∧ (([db (nY (yH l) (i2 + 1)) (ka0 (nY (yH l) (i2 + 1)))] : List D) = [db (kC (kO l i2) 7) (ka0 (kC (kO l i2) 7))]) ∧ (kJ [iD 0, qI, qI, qI]) ∧ (kM y) ∧ (kJ (dI .i64 (vD l))) ∧ (kG (vI (aN qY (qX l) 5) (aG qY (qX l) 5))) ∧ (kG 0) ∧ (kG (q + 1)) ∧ (kJ (dI .i64 (vO l))) ∧ (kG (vI (aN kP (kL l) 4) (aG kP (kL l) 4))) ∧ (kJ (kI (ms ++ ([(yC (kO l i2))] : List (List Int)))))) zk ⟨rfl, rfl, rfl, zo, (by rfl), rfl, rfl, rfl, rfl, rfl, rfl, rfl, rfl, rfl⟩ (show 1 + kD (yV kP (kL l) 4) 3 - (i2 + 1) < 1 + kD (yV kP (kL l) 4) 3 - i2 from zo)
  ·refine kH [.no, .b false] (¬ ((0 : Int) < ((((1 + (kD (yV kP (kL l) 4) 3)) : Nat) : Int) - (i2 : Int)))) [(0, rV 0 0), (2, rV 1 0), (3, rV 2 0), (5, iV ((((1 + (kD (yV kP (kL l) 4) 3)) : Nat) : Int) - ↑i2)), (50, bV false)] [(0, some (70, .ds [db (kO l i2) (ka0 (kO l i2))])), (1, some (63, uQ)), (2, some (63, (v8 y l q))), (6, some (38, .ds (kI ms)))] 7 zo ?_
   refine zf ?_
   refine AW.exit ?_
   refine kH [.no, .no] True [(2, rV 1 0)] [(0, some (70, .ds [db (kO l i2) (ka0 (kO l i2))])), (1, some (63, (v8 y l q))), (6, some (38, .ds (kI ms)))] 7 trivial ?_
   obtain rfl : i2 = (1 + (kD (yV kP (kL l) 4) 3)) := (by omega)
   refine AW.freeze 6 (l' := [(2, rV 1 0)]) (g' := [(0, some (70, .ds [db (nY (yH l) (1 + (kD (yV kP (kL l) 4) 3))) (ka0 (nY (yH l) (1 + (kD (yV kP (kL l) 4) 3))))])), (1, some (63, .ds [iD y, dl (vD l) (vI (aN qY (qX l) 5) (aG qY (qX l) 5)), D.sl (kI ms) q, dl (vO l) (vI (aN kP (kL l) 4) (aG kP (kL l) 4))]))]) rfl (FzS.cons rfl (.same _) FzS.nil) (uI rfl rfl (FzG.to (bc := .cs [iC y, .d (dl (vD l) (vI (aN qY (qX l) 5) (aG qY (qX l) 5))), .own 6 0 q 1 true, .d (dl (vO l) (vI (aN kP (kL l) 4) (aG kP (kL l) 4)))]) rfl (by rfl) (FzL.cons (.same _) (FzL.cons (.same _) (FzL.cons (@FzC.own 6 ((kI ms) : List D) 0 q 1 true ((kI ms) : List D) (by rw [List.drop_zero, Nat.mul_one, kb7 (by (simp only [qB, qA, qQ, ka8, kb0, kb2, kb4, kb6, kb5, kc1, kc3, kc0, Nat.mul_one] <;> omega))]) mD) (FzL.cons (.same _) FzL.nil)))) FzG.nil)) ?_
   have hz1 : eL l = y := hy
   have hz2 : b9 l = ms := hm
   refine AW.ret ?_
   exact kA (.inr rfl) [] (P := (((eL l) : Int) = y) ∧ (((dI .i64 (eK l)) : List D) = (dI .i64 (vD l))) ∧ (((eD l) : Nat) = (vI (aN qY (qX l) 5) (aG qY (qX l) 5))) ∧ (((kI (b9 l)) : List D) = (kI ms)) ∧ (((ka0 (b9 l)) : Nat) = q) ∧ (((dI .i64 (eJ l)) : List D) = (dI .i64 (vO l))) ∧ (((eC l) : Nat) = (vI (aN kP (kL l) 4) (aG kP (kL l) 4))) ∧ (([db (boD l) (ka0 (boD l))] : List D) = [db (nY (yH l) (1 + (kD (yV kP (kL l) 4) 3))) (ka0 (nY (yH l) (1 + (kD (yV kP (kL l) 4) 3))))])) zk ⟨(by exact hz1), (by rfl), (by rfl), (by (rw [hz2]; done)), (by (rw [hz2]; omega)), (by rfl), (by rfl), (by rfl)⟩
end Go.Proofs.YtbicifcgghmhaaaGreat
