/- Boxes out of dice. No statement is proved here. -/
import Derived.Test.YtbicifcgghmhaaaGreatZL10E
namespace Go.Proofs.YtbicifcgghmhaaaGreat
open Go.ChangeShapes Go.WideShapes Go.ChangeAt Go.RowKit
open List renaming drop → ka3, getD → ka1, getD_eq_getElem?_getD → ka6, getElem?_eq_getElem → ka7, length → ka0, length_append → ka8, length_cons → kb0, length_drop → kb6, length_map → kc3, length_nil → kb2, length_replicate → kb5, length_reverse → kc0, length_set → kc1, length_take → kb4, take → ka5, take_of_length_le → kb7
set_option linter.unusedVariables false
set_option linter.unusedSimpArgs false
set_option maxHeartbeats 4000000
set_option maxRecDepth 100000
theorem u0y (xs : List (List Int)) (i : Nat) (h : i < xs.length) : (kI xs)[i]? = some (D.sl (dI .i64 (ka1 xs i [])) (ka1 xs i []).length) := by
 have := a7 xs i h
 rw [List.getElem?_drop, Nat.add_zero] at this; exact this
def kbV (l : List Int) : Int := IntKind.i64.wrap (1 * (((2 ^ (1 + (kD l 7))) : Nat) : Int))
def orI (a b : Int) : Int := qE .or .i64 a b
def dH (l : List Int) : Nat → List Int
 | 0 => l
 | i + 1 => kC (dH l i) 7
def knK (l : List Int) (k : Int) : Nat → Int
 | 0 => k
 | i + 1 => orI (knK l k i) (kbV (dH l i))
theorem vS {l : List Int} (h : Byt l) : ∀ i, Byt (dH l i)
 | 0 => h
 | i + 1 => qI _ (vS h i)
def thE (x m : List Int) : Bool := decide (ka0 x = ka0 m ∧ ka1 x 0 0 = ka1 m 0 0)
def nB (ms : List (List Int)) (m : List Int) : Bool := ms.any fun x => thE x m
theorem v3c (ms : List (List Int)) (m : List Int) : nB (ka5 0 ms) m = false := rfl
theorem pO {ms : List (List Int)} {m : List Int} {j : Nat} (h : j < ms.length) : nB (ka5 (j + 1) ms) m = (nB (ka5 j ms) m || thE (ka1 ms j []) m) := by
 unfold nB
 rw [ka6, ka7 h, List.take_succ_eq_append_getElem h, List.any_append]
 simp
theorem v3a {ms : List (List Int)} {m : List Int} {j : Nat} (h : j < ms.length) (h1 : nB (ka5 j ms) m = true) : nB (ka5 (j + 1) ms) m = true := by
 rw [pO h, h1]; rfl
theorem v3b {ms : List (List Int)} {m : List Int} {j : Nat} (h : j < ms.length) (h1 : ka0 (ka1 ms j []) = ka0 m ∧ ka1 (ka1 ms j []) 0 0 = ka1 m 0 0) : nB (ka5 (j + 1) ms) m = true := by
 rw [pO h, show thE (ka1 ms j []) m = true from decide_eq_true h1, Bool.or_true]
theorem u92 {ms : List (List Int)} {m : List Int} {j : Nat} (h : j < ms.length) (h0 : nB (ka5 j ms) m = false) (h1 : ¬ (ka0 (ka1 ms j []) = ka0 m ∧ ka1 (ka1 ms j []) 0 0 = ka1 m 0 0)) : nB (ka5 (j + 1) ms) m = false := by
 rw [pO h, h0, show thE (ka1 ms j []) m = false from decide_eq_false h1]; rfl
def nD (l : List Int) : Nat → List Int
 | 0 => l
 | i + 1 => kC (nD l i) 7
def nC (l : List Int) : Nat → List (List Int)
 | 0 => []
 | i + 1 => if nB (nC l i) (yA (nD l i)) = true then nC l i else nC l i ++ [yA (nD l i)]
theorem gX {l : List Int} (h : Byt l) : ∀ i, Byt (nD l i)
 | 0 => h
 | i + 1 => qI _ (gX h i)
theorem v4f {l : List Int} {i : Nat} {ms : List (List Int)} (h : nC l i = ms) (h1 : nB ms (yA (nD l i)) = true) : nC l (i + 1) = ms := by
 subst h; exact if_pos h1
theorem v4g {l : List Int} {i : Nat} {ms : List (List Int)} (h : nC l i = ms) (h1 : nB ms (yA (nD l i)) = false) : nC l (i + 1) = ms ++ [yA (nD l i)] := by
 subst h; exact if_neg (by rw [h1]; decide)
theorem v4j {l : List Int} {k : Int} {i : Nat} {y x : Int} (h : knK l k i = y) (hx : x = orI y (kbV (dH l i))) : knK l k (i + 1) = x := by
 subst h; rw [hx]; rfl
theorem k4l {ms : List (List Int)} {m : List Int} {j c : Nat} {f : Bool} (hc : ms.length = c) (hj : c ≤ j) (h : nB (ka5 j ms) m = f) : nB ms m = f := by
 rw [kb7 (by omega)] at h; exact h
theorem k69 (l : List Int) : ∀ i, MsW (nC l i)
 | 0 => MsW.nil
 | i + 1 => by
  rw [nC]; split
  ·exact k69 l i
  ·exact (k69 l i).snoc (Nat.le_trans (z9 _) (by omega))
theorem z8 (l : List Int) : ∀ i, ka0 (nC l i) ≤ i
 | 0 => Nat.le_refl _
 | i + 1 => by
  have := z8 l i
  rw [nC]; split
  ·omega
  ·rw [ka8, List.length_singleton]; omega
def bo1 (l : List Int) : List Int := kC (kC l 7) 3
def bo2 (l : List Int) : List Int := dH (bo1 l) (kD (kC l 7) 3)
def rtT : List Int := [44100, 44100, 48000, 48000, 8000, 8000, 32000, 50000, 96000, 192000]
def szT : List Int := [16, 64, 64, 1024, 2048, 2048, 1, 65536]
def bo3 (l : List Int) : List Int := yV rtT (bo2 l) 5
def bo4 (l : List Int) : List Int := yV szT (bo3 l) 4
def bo5 (l : List Int) : List Int := kC (bo4 l) 3
def boN (l : List Int) : Nat := 1 + kD (bo4 l) 3
def boD (l : List Int) : List Int := nD (bo5 l) (boN l)
def xH (l : List Int) : Int := knK (bo1 l) (kbV l) (kD (kC l 7) 3)
def xG (l : List Int) : List Int := d5 (aJ rtT (bo2 l) 5) (aC rtT (bo2 l) 5)
def tM (l : List Int) : Nat := vE (aJ rtT (bo2 l) 5) (aC rtT (bo2 l) 5)
def xF (l : List Int) : List Int := d5 (aJ szT (bo3 l) 4) (aC szT (bo3 l) 4)
def tL (l : List Int) : Nat := vE (aJ szT (bo3 l) 4) (aC szT (bo3 l) 4)
def j7 (l : List Int) : List (List Int) := nC (bo5 l) (boN l)
def MsN (xs : List (List Int)) : Prop := ∀ l ∈ xs, 1 ≤ ka0 l
theorem MsN.nil : MsN [] := fun l h => by cases h
theorem MsN.snoc {xs : List (List Int)} {l : List Int} (h : MsN xs) (hl : 1 ≤ ka0 l) : MsN (xs ++ [l]) := fun m hm => (List.mem_append.1 hm).elim (h m) fun hm => by
 rw [List.mem_singleton.1 hm]; exact hl
theorem MsN.at {xs : List (List Int)} (h : MsN xs) {i : Nat} (hi : i < xs.length) : 1 ≤ ka0 (ka1 xs i []) := by
 rw [ka6, ka7 hi]; exact h _ (List.getElem_mem hi)
attribute [local irreducible] aJ yV aC d5 vE kD kC yA nB
abbrev qW := ([44100, 44100, 48000, 48000, 8000, 8000, 32000, 50000, 96000, 192000] : List Int)
abbrev qV (l : List Int) := dH (kC (kC l 7) 3) (kD (kC l 7) 3)
abbrev kL (l : List Int) := yV qW (qV l) 5
abbrev kO := ([16, 64, 64, 1024, 2048, 2048, 1, 65536] : List Int)
abbrev yI (l : List Int) := kC (yV kO (kL l) 4) 3
abbrev kN (l : List Int) (i2 : Nat) := nD (yI l) i2
abbrev y9 (l : List Int) := d5 (aJ qW (qV l) 5) (aC qW (qV l) 5)
abbrev vL (l : List Int) := d5 (aJ kO (kL l) 4) (aC kO (kL l) 4)
theorem lV {p : Prop} (h : p := by (simp only [qA, k9, qP, ka8, kb0, kb2, kb4, kb6, kb5, kc1, kc3, kc0, Nat.mul_one] <;> omega)) : p := h
abbrev vZ (y : Int) (l : List Int) (q : Nat) : BC := .cs [iC y, .d (D.sl (dI .i64 (y9 l)) (vE (aJ qW (qV l) 5) (aC qW (qV l) 5))), .own 6 0 q 1 true, .d (D.sl (dI .i64 (vL l)) (vE (aJ kO (kL l) 4) (aC kO (kL l) 4)))]
abbrev uR : BC := .ds [iD 0, D.lit (.slice none 0 0), D.lit (.slice none 0 0), D.lit (.slice none 0 0)]
abbrev vP (l : List Int) (i2 : Nat) : BC := .ds [D.sl (dI .u8 (kC (kN l i2) 7)) (ka0 (kC (kN l i2) 7))]
abbrev lB (l : List Int) (i : Nat) : BC := .ds [D.sl (dI .u8 (dH (kC (kC l 7) 3) i)) (ka0 (dH (kC (kC l 7) 3) i))]
abbrev lA (y : Int) : BC := .ds [iD y, D.lit (.slice none 0 0), D.lit (.slice none 0 0), D.lit (.slice none 0 0)]
theorem v2v (l : List Int) (hb : Byt l) : Fun 27 [.c (.ptr 0 0)] (kF [(0, some (70, .ds [D.sl (dI .u8 l) (ka0 l)]))]) 1 (.e (.agg [iC (xH l), .d (D.sl (dI .i64 (xG l)) (tM l)), .d (D.sl (kI (j7 l)) (ka0 (j7 l))), .d (D.sl (dI .i64 (xF l)) (tL l))])) (kF [(0, some (70, .ds [D.sl (dI .u8 (boD l)) (ka0 (boD l))]))]) 1 := by
 refine Fun.mk (n := 89) Tryz.func27 rfl rfl (Nat.le_of_ble_eq_true rfl) ?_
 intro cx hcx
 refine kH [.no] True [(0, rV 0 0), (2, rV 1 0)] [(0, some (70, .ds [db l (ka0 l)])), (1, some (63, uR))] 2 trivial ?_
 have hx1 : ((((((kD l 7) : Nat) : Int) < 7) ∨ ((kD l 7) = 0)) ∧ ((kD l 7) ≤ 255)) := q8 l (7 : Int) (qC : Byt l)
 have hx2 : (Byt (kC l 7)) := qI (7 : Int) (qC : Byt l)
 refine kH [.no, .call [0] (uV (kD l 7)) [(0, some (70, .ds [db (kC l 7) (ka0 (kC l 7))]))] 1 [] none, .w, .n2 (1 + (kD l 7)) 0, .no, .no, .no] ((_) ∧ (uZ (1 + (kD l 7 : Int))) ∧ (((1 + (kD l 7 : Int)) : Int) = (((1 + (kD l 7)) : Nat) : Int)) ∧ ((1 + (kD l 7)) ≤ 64)) [(0, rV 0 0), (2, rV 1 0), (3, rV 2 0)] [(0, some (70, .ds [db (kC l 7) (ka0 (kC l 7))])), (1, some (63, uR)), (2, some (63, .ds [iD (IntKind.i64.wrap (1 * (((2 ^ (1 + (kD l 7))) : Nat) : Int))), qJ, qJ, qJ]))] 3 ⟨(cF l 7 (qC : Byt l)), ⟨by omega, by omega⟩, (by rfl), zo⟩ ?_
 refine AW.seq ?_
 have hx3 : ((((((kD (kC l 7) 3) : Nat) : Int) < 3) ∨ ((kD (kC l 7) 3) = 0)) ∧ ((kD (kC l 7) 3) ≤ 255)) := q8 (kC l 7) (3 : Int) (qC : Byt (kC l 7))
 have hx4 : (Byt (kC (kC l 7) 3)) := qI (3 : Int) (qC : Byt (kC l 7))
 refine kH [.no, .call [0] (uV (kD (kC l 7) 3)) [(0, some (70, .ds [db (kC (kC l 7) 3) (ka0 (kC (kC l 7) 3))]))] 1 [] none, .no] _ [(0, rV 0 0), (2, rV 1 0), (3, rV 2 0), (4, uV (kD (kC l 7) 3))] [(0, some (70, .ds [db (kC (kC l 7) 3) (ka0 (kC (kC l 7) 3))])), (1, some (63, uR)), (2, some (63, .ds [iD (IntKind.i64.wrap (1 * (((2 ^ (1 + (kD l 7))) : Nat) : Int))), qJ, qJ, qJ]))] 3 (cF (kC l 7) 3 (qC : Byt (kC l 7))) ?_
 refine AW.block ?_
 refine kX 1 hcx (fun (x : {x : Nat × Int // match x with | (i, y) => (i ≤ kD (kC l 7) 3) ∧ (knK (kC (kC l 7) 3) (kbV l) i = y)}) => match x with | ⟨(i, y), _⟩ => (⟨[(0, rV 0 0), (2, rV 1 0), (3, rV 2 0), (4, iV ((kD (kC l 7) 3 : Int) - (i : Int)))], [(0, some (70, (lB l i))), (1, some (63, uR)), (2, some (63, (lA y)))], 3⟩ : ES)) (fun x => match x with | ⟨(i, y), _⟩ => kD (kC l 7) 3 - i) ⟨((0 : Nat), ((IntKind.i64.wrap (1 * (((2 ^ (1 + (kD l 7))) : Nat) : Int))) : Int)), ⟨zo, rfl⟩⟩ [] (P := (kG 0) ∧ (kG 0) ∧ (kG 0) ∧ ((((kD (kC l 7) 3 : Int) - 0) : Int) = (kD (kC l 7) 3 : Int)) ∧ (([db (dH (kC (kC l 7) 3) 0) (ka0 (dH (kC (kC l 7) 3) 0))] : List D) = [db (kC (kC l 7) 3) (ka0 (kC (kC l 7) 3))]) ∧ (kJ [iD 0, qJ, qJ, qJ]) ∧ (kJ [iD (IntKind.i64.wrap (1 * (((2 ^ (1 + (kD l 7))) : Nat) : Int))), qJ, qJ, qJ])) zk ⟨rfl, rfl, rfl, (by rfl), (by rfl), rfl, rfl⟩ ?_
 rintro ⟨⟨i, y⟩, hinv0⟩
 obtain ⟨hi, hy⟩ : (i ≤ kD (kC l 7) 3) ∧ (knK (kC (kC l 7) 3) (kbV l) i = y) := hinv0
 refine qU (l := [(0, rV 0 0), (2, rV 1 0), (3, rV 2 0), (4, iV ((kD (kC l 7) 3 : Int) - (i : Int)))]) (g := [(0, some (70, (lB l i))), (1, some (63, uR)), (2, some (63, (lA y)))]) (nx := 3) rfl rfl rfl ?_
 refine AW.seq ?_
 by_cases hx5 : ((0 : Int) < ((((kD (kC l 7) 3) : Nat) : Int) - ((i : Nat) : Int)))
 ·refine kH [.no, .b true] (((0 : Int) < ((kD (kC l 7) 3 : Int) - (i : Int)))) [(0, rV 0 0), (2, rV 1 0), (3, rV 2 0), (4, iV ((kD (kC l 7) 3 : Int) - ↑i)), (18, bV true)] [(0, some (70, (lB l i))), (1, some (63, uR)), (2, some (63, (lA y)))] 3 zo ?_
  refine vI ?_
  refine AW.seq ?_
  refine AW.block ?_
  have hx6 : ((((((kD (dH (kC (kC l 7) 3) i) 7) : Nat) : Int) < 7) ∨ ((kD (dH (kC (kC l 7) 3) i) 7) = 0)) ∧ ((kD (dH (kC (kC l 7) 3) i) 7) ≤ 255)) := q8 (dH (kC (kC l 7) 3) i) (7 : Int) ((vS (qC : Byt (kC (kC l 7) 3)) _))
  have hx7 : (Byt (kC (dH (kC (kC l 7) 3) i) 7)) := qI (7 : Int) ((vS (qC : Byt (kC (kC l 7) 3)) _))
  refine vY [.no, .no, .no, .call [0] (iV (kD (dH (kC (kC l 7) 3) i) 7 : Int)) [(0, some (70, .ds [db (kC (dH (kC (kC l 7) 3) i) 7) (ka0 (kC (dH (kC (kC l 7) 3) i) 7))]))] 1 [] none, .w, .n2 (1 + (kD (dH (kC (kC l 7) 3) i) 7)) 0, .i (orI y (IntKind.i64.wrap (1 * (((2 ^ (1 + (kD (dH (kC (kC l 7) 3) i) 7))) : Nat) : Int)))), .no, .no] ((_) ∧ ((-9223372036854775808) ≤ (1 + (kD (dH (kC (kC l 7) 3) i) 7 : Int)) ∧ (1 + (kD (dH (kC (kC l 7) 3) i) 7 : Int)) ≤ 9223372036854775807) ∧ (((1 + (kD (dH (kC (kC l 7) 3) i) 7 : Int)) : Int) = (((1 + (kD (dH (kC (kC l 7) 3) i) 7)) : Nat) : Int)) ∧ ((1 + (kD (dH (kC (kC l 7) 3) i) 7)) ≤ 64) ∧ (qE .or .i64 y (IntKind.i64.wrap (1 * (((2 ^ (1 + (kD (dH (kC (kC l 7) 3) i) 7))) : Nat) : Int))) = (orI y (IntKind.i64.wrap (1 * (((2 ^ (1 + (kD (dH (kC (kC l 7) 3) i) 7))) : Nat) : Int)))))) [(0, rV 0 0), (2, rV 1 0), (3, rV 2 0), (4, iV ((kD (kC l 7) 3 : Int) - ↑i))] [(0, some (70, .ds [db (kC (dH (kC (kC l 7) 3) i) 7) (ka0 (kC (dH (kC (kC l 7) 3) i) 7))])), (1, some (63, uR)), (2, some (63, .ds [iD (orI y (IntKind.i64.wrap (1 * (((2 ^ (1 + (kD (dH (kC (kC l 7) 3) i) 7))) : Nat) : Int)))), qJ, qJ, qJ]))] 3 ⟨(cF (dH (kC (kC l 7) 3) i) 7 (vS (qC : Byt (kC (kC l 7) 3)) _)), ⟨by omega, by omega⟩, (by rfl), zo, rfl⟩ ?_
  refine u2 [.no, .w, .no] (uZ (((kD (kC l 7) 3 : Int) - (i : Int)) - 1)) [(0, rV 0 0), (2, rV 1 0), (3, rV 2 0), (4, iV (((kD (kC l 7) 3 : Int) - ↑i) - 1))] ⟨by omega, by omega⟩ ?_
  exact kV ⟨(((i + 1) : Nat), ((orI y (IntKind.i64.wrap (1 * (((2 ^ (1 + (kD (dH (kC (kC l 7) 3) i) 7))) : Nat) : Int)))) : Int)), ⟨zo, (v4j hy rfl)⟩⟩ [] (P := (kG 0) ∧ (kG 0) ∧ (kG 0) ∧ ((((kD (kC l 7) 3 : Int) - (((i + 1) : Nat) : Int)) : Int) = (((kD (kC l 7) 3 : Int) - (i : Int)) - 1)) ∧ (([db (dH (kC (kC l 7) 3) (i + 1)) (ka0 (dH (kC (kC l 7) 3) (i + 1)))] : List D) = [db (kC (dH (kC (kC l 7) 3) i) 7) (ka0 (kC (dH (kC (kC l 7) 3) i) 7))]) ∧ (kJ [iD 0, qJ, qJ, qJ]) ∧ (kJ [iD (orI y (IntKind.i64.wrap (1 * (((2 ^ (1 + (kD (dH (kC (kC l 7) 3) i) 7))) : Nat) : Int)))), qJ, qJ, qJ])) zk ⟨rfl, rfl, rfl, zo, (by rfl), rfl, rfl⟩ (show kD (kC l 7) 3 - (i + 1) < kD (kC l 7) 3 - i from zo)
 ·refine kH [.no, .b false] (¬ ((0 : Int) < ((kD (kC l 7) 3 : Int) - (i : Int)))) [(0, rV 0 0), (2, rV 1 0), (3, rV 2 0), (4, iV ((kD (kC l 7) 3 : Int) - ↑i)), (18, bV false)] [(0, some (70, (lB l i))), (1, some (63, uR)), (2, some (63, (lA y)))] 3 zo ?_
  refine zf ?_
  refine AW.exit ?_
  obtain rfl : i = (kD (kC l 7) 3) := (by omega)
  refine kH (qD 6 [(.fz (.no)), .call [0] (.e (.agg [.d (dl (y9 l) (vE (aJ qW (qV l) 5) (aC qW (qV l) 5)))])) [(0, some (70, .ds [db (kL l) (ka0 (kL l))]))] 1 [] none, .no, .no]) ((([iD 44100, iD 44100, iD 48000, iD 48000, iD 8000, iD 8000, iD 32000, iD 50000, iD 96000, iD 192000] : List D).length = 5 * 2) ∧ (_)) [(0, rV 0 0), (2, rV 1 0), (3, rV 2 0)] [(0, some (70, .ds [db (kL l) (ka0 (kL l))])), (1, some (63, uR)), (2, some (63, .ds [iD y, dl (y9 l) (vE (aJ qW (qV l) 5) (aC qW (qV l) 5)), qJ, qJ]))] 4 ⟨lV, (u5n qW 5 (qV l) (by (simp only [qA, k9, ka8, kb0, kb2, kb4, kb6, kb5, kc1] <;> omega)) zo zo (vS (qC : Byt (kC (kC l 7) 3)) _))⟩ ?_
  refine kH (qD 5 [(.fz (.no)), .call [0] (.e (.agg [.d (dl (vL l) (vE (aJ kO (kL l) 4) (aC kO (kL l) 4)))])) [(0, some (70, .ds [db (yV kO (kL l) 4) (ka0 (yV kO (kL l) 4))]))] 1 [] none, .no, .no]) ((([iD 16, iD 64, iD 64, iD 1024, iD 2048, iD 2048, iD 1, iD 65536] : List D).length = 4 * 2) ∧ (_)) [(0, rV 0 0), (2, rV 1 0), (3, rV 2 0)] [(0, some (70, .ds [db (yV kO (kL l) 4) (ka0 (yV kO (kL l) 4))])), (1, some (63, uR)), (2, some (63, .ds [iD y, dl (y9 l) (vE (aJ qW (qV l) 5) (aC qW (qV l) 5)), qJ, dl (vL l) (vE (aJ kO (kL l) 4) (aC kO (kL l) 4))]))] 5 ⟨lV, (u5n kO 4 (kL l) (by (simp only [qA, k9, ka8, kb0, kb2, kb4, kb6, kb5, kc1] <;> omega)) zo zo (aA (vS (qC : Byt (kC (kC l 7) 3)) _)))⟩ ?_
  refine AW.seq ?_
  have hx8 : ((((((kD (yV kO (kL l) 4) 3) : Nat) : Int) < 3) ∨ ((kD (yV kO (kL l) 4) 3) = 0)) ∧ ((kD (yV kO (kL l) 4) 3) ≤ 255)) := q8 (yV kO (kL l) 4) (3 : Int) ((aA (aA (vS (qC : Byt (kC (kC l 7) 3)) _))))
  have hx9 : (Byt (yI l)) := qI (3 : Int) ((aA (aA (vS (qC : Byt (kC (kC l 7) 3)) _))))
  refine kH [.no, .call [0] (uV (kD (yV kO (kL l) 4) 3)) [(0, some (70, .ds [db (yI l) (ka0 (yI l))]))] 1 [] none, .w, .no] ((_) ∧ (uZ (1 + (kD (yV kO (kL l) 4) 3 : Int)))) [(0, rV 0 0), (2, rV 1 0), (3, rV 2 0), (5, iV (1 + (kD (yV kO (kL l) 4) 3 : Int)))] [(0, some (70, .ds [db (yI l) (ka0 (yI l))])), (1, some (63, uR)), (2, some (63, .ds [iD y, dl (y9 l) (vE (aJ qW (qV l) 5) (aC qW (qV l) 5)), qJ, dl (vL l) (vE (aJ kO (kL l) 4) (aC kO (kL l) 4))]))] 5 ⟨(cF (yV kO (kL l) 4) 3 (aA (aA (vS (qC : Byt (kC (kC l 7) 3)) _)))), ⟨by omega, by omega⟩⟩ ?_
  refine AW.block ?_
  refine k48 2 2 1 38 (cs' := [iC y, .d (dl (y9 l) (vE (aJ qW (qV l) 5) (aC qW (qV l) 5))), .own 5 0 0 1 true, .d (dl (vL l) (vE (aJ kO (kL l) 4) (aC kO (kL l) 4)))]) rfl rfl rfl ?_
  refine kX 1 hcx (fun (x : {x : Nat × Nat × List (List Int) // match x with | (i2, q, ms) => (i2 ≤ 1 + kD (yV kO (kL l) 4) 3) ∧ (nC (yI l) i2 = ms) ∧ (ka0 ms = q ∧ q ≤ i2) ∧ (MsN ms) ∧ (MsW ms)}) => match x with | ⟨(i2, q, ms), _⟩ => (⟨[(0, rV 0 0), (2, rV 1 0), (3, rV 2 0), (5, iV ((((1 + (kD (yV kO (kL l) 4) 3)) : Nat) : Int) - (i2 : Int)))], [(0, some (70, .ds [db (kN l i2) (ka0 (kN l i2))])), (1, some (63, uR)), (2, some (63, (vZ y l q))), (6, some (38, .ds (kI ms)))], 7⟩ : ES)) (fun x => match x with | ⟨(i2, q, ms), _⟩ => 1 + kD (yV kO (kL l) 4) 3 - i2) ⟨((0 : Nat), (0 : Nat), (([] : List (List Int)) : List (List Int))), ⟨zo, rfl, ⟨rfl, by omega⟩, MsN.nil, MsW.nil⟩⟩ [(6, 5)] (P := (kG 0) ∧ (kG 0) ∧ (kG 0) ∧ ((((((1 + (kD (yV kO (kL l) 4) 3)) : Nat) : Int) - 0) : Int) = (1 + (kD (yV kO (kL l) 4) 3 : Int))) ∧ (([db (nD (yI l) 0) (ka0 (nD (yI l) 0))] : List D) = [db (yI l) (ka0 (yI l))]) ∧ (kJ [iD 0, qJ, qJ, qJ]) ∧ (kM y) ∧ (kJ (dI .i64 (y9 l))) ∧ (kG (vE (aJ qW (qV l) 5) (aC qW (qV l) 5))) ∧ (kG 0) ∧ (kG 0) ∧ (kJ (dI .i64 (vL l))) ∧ (kG (vE (aJ kO (kL l) 4) (aC kO (kL l) 4))) ∧ (((kI ([] : List (List Int))) : List D) = ([] : List D))) zk ⟨rfl, rfl, rfl, (by rfl), (by rfl), rfl, rfl, rfl, rfl, rfl, rfl, rfl, rfl, (by rfl)⟩ ?_
  rintro ⟨⟨i2, q, ms⟩, hinv1⟩
  obtain ⟨hi2, hm, hq, hN, hW⟩ : (i2 ≤ 1 + kD (yV kO (kL l) 4) 3) ∧ (nC (yI l) i2 = ms) ∧ (ka0 ms = q ∧ q ≤ i2) ∧ (MsN ms) ∧ (MsW ms) := hinv1
  refine qU (l := [(0, rV 0 0), (2, rV 1 0), (3, rV 2 0), (5, iV ((((1 + (kD (yV kO (kL l) 4) 3)) : Nat) : Int) - (i2 : Int)))]) (g := [(0, some (70, .ds [db (kN l i2) (ka0 (kN l i2))])), (1, some (63, uR)), (2, some (63, (vZ y l q))), (6, some (38, .ds (kI ms)))]) (nx := 7) rfl rfl rfl ?_
  refine AW.seq ?_
  by_cases hx10 : ((0 : Int) < ((((1 + (kD (yV kO (kL l) 4) 3)) : Nat) : Int) - ((i2 : Nat) : Int)))
  ·refine kH [.no, .b true] (((0 : Int) < ((((1 + (kD (yV kO (kL l) 4) 3)) : Nat) : Int) - (i2 : Int)))) [(0, rV 0 0), (2, rV 1 0), (3, rV 2 0), (5, iV ((((1 + (kD (yV kO (kL l) 4) 3)) : Nat) : Int) - ↑i2)), (50, bV true)] [(0, some (70, .ds [db (kN l i2) (ka0 (kN l i2))])), (1, some (63, uR)), (2, some (63, (vZ y l q))), (6, some (38, .ds (kI ms)))] 7 zo ?_
   refine vI ?_
   refine AW.seq ?_
   refine AW.block ?_
   have hx11 : (((1 : Nat) ≤ (ka0 (yA (kN l i2)))) ∧ ((ka0 (yA (kN l i2))) ≤ 6)) := (u11 ((gX (qC : Byt (yI l)) _)))
   refine kH [.no, .call [0] (sV .i64 (yA (kN l i2)) (ka0 (yA (kN l i2)))) [(0, some (70, (vP l i2)))] 1 [] none, .no] _ [(0, rV 0 0), (2, rV 1 0), (3, rV 2 0), (5, iV ((((1 + (kD (yV kO (kL l) 4) 3)) : Nat) : Int) - ↑i2)), (6, sV .i64 (yA (kN l i2)) (ka0 (yA (kN l i2))))] [(0, some (70, (vP l i2))), (1, some (63, uR)), (2, some (63, (vZ y l q))), (6, some (38, .ds (kI ms)))] 7 (v2w (kN l i2) (gX (qC : Byt (yI l)) _)) ?_
   refine kQ [.no] True [(0, rV 0 0), (2, rV 1 0), (3, rV 2 0), (5, iV ((((1 + (kD (yV kO (kL l) 4) 3)) : Nat) : Int) - ↑i2)), (6, sV .i64 (yA (kN l i2)) (ka0 (yA (kN l i2)))), (7, bV false)] trivial ?_
   refine AW.seq ?_
   refine kQ (qD 4 []) True [(0, rV 0 0), (2, rV 1 0), (3, rV 2 0), (5, iV ((((1 + (kD (yV kO (kL l) 4) 3)) : Nat) : Int) - ↑i2)), (6, sV .i64 (yA (kN l i2)) (ka0 (yA (kN l i2)))), (7, bV false), (56, oV 6 0 q 1), (57, uV q), (58, iV 0)] trivial ?_
   refine AW.block ?_
   refine kX 1 hcx (fun (x : {x : Nat × Bool // match x with | (j, f) => (j ≤ q) ∧ (nB (ka5 j ms) (yA (kN l i2)) = f)}) => match x with | ⟨(j, f), _⟩ => (⟨[(0, rV 0 0), (2, rV 1 0), (3, rV 2 0), (5, iV ((((1 + (kD (yV kO (kL l) 4) 3)) : Nat) : Int) - (i2 : Int))), (6, sV .i64 (yA (kN l i2)) (ka0 (yA (kN l i2)))), (7, uJ (D.lit (.bool (f)))), (56, oV 6 0 q 1), (57, uV q), (58, uV j)], [(0, some (70, (vP l i2))), (1, some (63, uR)), (2, some (63, (vZ y l q))), (6, some (38, .ds (kI ms)))], 7⟩ : ES)) (fun x => match x with | ⟨(j, f), _⟩ => q - j) ⟨((0 : Nat), (false : Bool)), ⟨zo, (v3c _ _)⟩⟩ [] (P := (kG 0) ∧ (kG 0) ∧ (kG 0) ∧ (kM ((((1 + (kD (yV kO (kL l) 4) 3)) : Nat) : Int) - (i2 : Int))) ∧ (kJ (dI .i64 (yA (kN l i2)))) ∧ (kG (ka0 (yA (kN l i2)))) ∧ ((false) = false) ∧ (kG 0) ∧ (kG q) ∧ (kM (q : Int)) ∧ (kM 0) ∧ (kJ [db (kC (kN l i2) 7) (ka0 (kC (kN l i2) 7))]) ∧ (kJ [iD 0, qJ, qJ, qJ]) ∧ (kM y) ∧ (kJ (dI .i64 (y9 l))) ∧ (kG (vE (aJ qW (qV l) 5) (aC qW (qV l) 5))) ∧ (kG 0) ∧ (kG q) ∧ (kJ (dI .i64 (vL l))) ∧ (kG (vE (aJ kO (kL l) 4) (aC kO (kL l) 4))) ∧ (kJ (kI ms))) zk ⟨rfl, rfl, rfl, rfl, rfl, rfl, (by rfl), rfl, rfl, rfl, rfl, rfl, rfl, rfl, rfl, rfl, rfl, rfl, rfl, rfl, rfl⟩ ?_
   rintro ⟨⟨j, f⟩, hinv2⟩
   obtain ⟨hj, hf⟩ : (j ≤ q) ∧ (nB (ka5 j ms) (yA (kN l i2)) = f) := hinv2
   refine qU (l := [(0, rV 0 0), (2, rV 1 0), (3, rV 2 0), (5, iV ((((1 + (kD (yV kO (kL l) 4) 3)) : Nat) : Int) - (i2 : Int))), (6, sV .i64 (yA (kN l i2)) (ka0 (yA (kN l i2)))), (7, uJ (D.lit (.bool (f)))), (56, oV 6 0 q 1), (57, uV q), (58, uV j)]) (g := [(0, some (70, (vP l i2))), (1, some (63, uR)), (2, some (63, (vZ y l q))), (6, some (38, .ds (kI ms)))]) (nx := 7) rfl rfl rfl ?_
   by_cases hx12 : (((j : Nat) : Int) < ((q : Nat) : Int))
   ·refine kH [.b true] (((j : Int) < (q : Int))) [(0, rV 0 0), (2, rV 1 0), (3, rV 2 0), (5, iV ((((1 + (kD (yV kO (kL l) 4) 3)) : Nat) : Int) - ↑i2)), (6, sV .i64 (yA (kN l i2)) (ka0 (yA (kN l i2)))), (7, uJ (D.lit (.bool (f)))), (56, oV 6 0 q 1), (57, uV q), (58, uV j), (59, bV true)] [(0, some (70, (vP l i2))), (1, some (63, uR)), (2, some (63, (vZ y l q))), (6, some (38, .ds (kI ms)))] 7 zo ?_
    refine AW.seq ?_
    refine vI ?_
    refine AW.seq ?_
    refine AW.block ?_
    have hx13 : ((ka0 (ka1 ms j ([] : List Int))) ≤ 1000000) := MsW.at (qC : MsW ms) _
    refine kQ [.n2 j j, .d (dl (ka1 ms j ([] : List Int)) (ka0 (ka1 ms j ([] : List Int)))), .no] ((kM (j : Int)) ∧ (j < q) ∧ ((0 : Nat) + j * 1 = j) ∧ ((kI ms)[j]? = some (dl (ka1 ms j ([] : List Int)) (ka0 (ka1 ms j ([] : List Int)))))) [(0, rV 0 0), (2, rV 1 0), (3, rV 2 0), (5, iV ((((1 + (kD (yV kO (kL l) 4) 3)) : Nat) : Int) - ↑i2)), (6, sV .i64 (yA (kN l i2)) (ka0 (yA (kN l i2)))), (7, uJ (D.lit (.bool (f)))), (9, sV .i64 (ka1 ms j ([] : List Int)) (ka0 (ka1 ms j ([] : List Int)))), (56, oV 6 0 q 1), (57, uV q), (58, uV j)] ⟨rfl, zo, zo, (u0y _ _ zo)⟩ ?_
    rcases Bool.eq_false_or_eq_true (f) with hx15 | hx15
    ·subst hx15
     have hx16 : 1 ≤ ka0 (ka1 ms j ([] : List Int)) := hN.at zo
     refine vY (qD 4 []) True [(0, rV 0 0), (2, rV 1 0), (3, rV 2 0), (5, iV ((((1 + (kD (yV kO (kL l) 4) 3)) : Nat) : Int) - ↑i2)), (6, sV .i64 (yA (kN l i2)) (ka0 (yA (kN l i2)))), (7, bV true), (56, oV 6 0 q 1), (57, uV q), (58, uV j)] [(0, some (70, (vP l i2))), (1, some (63, uR)), (2, some (63, (vZ y l q))), (6, some (38, .ds (kI ms)))] 7 trivial ?_
     refine u2 [.w, .no] (uZ ((j : Int) + 1)) [(0, rV 0 0), (2, rV 1 0), (3, rV 2 0), (5, iV ((((1 + (kD (yV kO (kL l) 4) 3)) : Nat) : Int) - ↑i2)), (6, sV .i64 (yA (kN l i2)) (ka0 (yA (kN l i2)))), (7, bV true), (56, oV 6 0 q 1), (57, uV q), (58, iV (↑j + 1))] ⟨by omega, by omega⟩ ?_
     exact kV ⟨(((j + 1) : Nat), (true : Bool)), ⟨zo, (by exact v3a zo hf)⟩⟩ [] (P := (kG 0) ∧ (kG 0) ∧ (kG 0) ∧ (kM ((((1 + (kD (yV kO (kL l) 4) 3)) : Nat) : Int) - (i2 : Int))) ∧ (kJ (dI .i64 (yA (kN l i2)))) ∧ (kG (ka0 (yA (kN l i2)))) ∧ ((true) = true) ∧ (kG 0) ∧ (kG q) ∧ (kM (q : Int)) ∧ (bU j) ∧ (kJ [db (kC (kN l i2) 7) (ka0 (kC (kN l i2) 7))]) ∧ (kJ [iD 0, qJ, qJ, qJ]) ∧ (kM y) ∧ (kJ (dI .i64 (y9 l))) ∧ (kG (vE (aJ qW (qV l) 5) (aC qW (qV l) 5))) ∧ (kG 0) ∧ (kG q) ∧ (kJ (dI .i64 (vL l))) ∧ (kG (vE (aJ kO (kL l) 4) (aC kO (kL l) 4))) ∧ (kJ (kI ms))) zk ⟨rfl, rfl, rfl, rfl, rfl, rfl, (by rfl), rfl, rfl, rfl, (by rfl), rfl, rfl, rfl, rfl, rfl, rfl, rfl, rfl, rfl, rfl⟩ (show q - (j + 1) < q - j from zo)
    ·subst hx15
     by_cases hx18 : ((((ka0 (ka1 ms j ([] : List Int))) : Nat) : Int) = (((ka0 (yA (kN l i2))) : Nat) : Int))
     ·by_cases hx20 : ((ka1 (ka1 ms j ([] : List Int)) 0 0) = (ka1 (yA (kN l i2)) 0 0))
      ·have hx21 : 1 ≤ ka0 (ka1 ms j ([] : List Int)) := hN.at zo
       refine vY (qD 6 [.b true, .no, .no, .n 0, .d (D.lit (.int .i64 (ka1 (ka1 ms j ([] : List Int)) 0 0))), .no, .n 0, .d (D.lit (.int .i64 (ka1 (yA (kN l i2)) 0 0))), .b true, .no, .no, .no]) ((((((ka0 (ka1 ms j ([] : List Int))) : Nat) : Int) = (ka0 (yA (kN l i2)) : Int))) ∧ (kM 0) ∧ ((0 : Nat) < (ka0 (ka1 ms j ([] : List Int)))) ∧ ((ka3 0 (dI .i64 (ka1 ms j ([] : List Int))))[0]? = some (D.lit (.int .i64 (ka1 (ka1 ms j ([] : List Int)) 0 0)))) ∧ (kM 0) ∧ ((0 : Nat) < (ka0 (yA (kN l i2)))) ∧ ((ka3 0 (dI .i64 (yA (kN l i2))))[0]? = some (D.lit (.int .i64 (ka1 (yA (kN l i2)) 0 0)))) ∧ (((ka1 (ka1 ms j ([] : List Int)) 0 0) = (ka1 (yA (kN l i2)) 0 0)))) [(0, rV 0 0), (2, rV 1 0), (3, rV 2 0), (5, iV ((((1 + (kD (yV kO (kL l) 4) 3)) : Nat) : Int) - ↑i2)), (6, sV .i64 (yA (kN l i2)) (ka0 (yA (kN l i2)))), (7, bV true), (56, oV 6 0 q 1), (57, uV q), (58, uV j)] [(0, some (70, (vP l i2))), (1, some (63, uR)), (2, some (63, (vZ y l q))), (6, some (38, .ds (kI ms)))] 7 ⟨zo, rfl, zo, (yG _ _ _ zo), rfl, zo, (yG _ _ _ zo), zo⟩ ?_
       refine u2 [.w, .no] (uZ ((j : Int) + 1)) [(0, rV 0 0), (2, rV 1 0), (3, rV 2 0), (5, iV ((((1 + (kD (yV kO (kL l) 4) 3)) : Nat) : Int) - ↑i2)), (6, sV .i64 (yA (kN l i2)) (ka0 (yA (kN l i2)))), (7, bV true), (56, oV 6 0 q 1), (57, uV q), (58, iV (↑j + 1))] ⟨by omega, by omega⟩ ?_
       exact kV ⟨(((j + 1) : Nat), (true : Bool)), ⟨zo, (by exact v3b zo zo)⟩⟩ [] (P := (kG 0) ∧ (kG 0) ∧ (kG 0) ∧ (kM ((((1 + (kD (yV kO (kL l) 4) 3)) : Nat) : Int) - (i2 : Int))) ∧ (kJ (dI .i64 (yA (kN l i2)))) ∧ (kG (ka0 (yA (kN l i2)))) ∧ ((true) = true) ∧ (kG 0) ∧ (kG q) ∧ (kM (q : Int)) ∧ (bU j) ∧ (kJ [db (kC (kN l i2) 7) (ka0 (kC (kN l i2) 7))]) ∧ (kJ [iD 0, qJ, qJ, qJ]) ∧ (kM y) ∧ (kJ (dI .i64 (y9 l))) ∧ (kG (vE (aJ qW (qV l) 5) (aC qW (qV l) 5))) ∧ (kG 0) ∧ (kG q) ∧ (kJ (dI .i64 (vL l))) ∧ (kG (vE (aJ kO (kL l) 4) (aC kO (kL l) 4))) ∧ (kJ (kI ms))) zk ⟨rfl, rfl, rfl, rfl, rfl, rfl, (by rfl), rfl, rfl, rfl, (by rfl), rfl, rfl, rfl, rfl, rfl, rfl, rfl, rfl, rfl, rfl⟩ (show q - (j + 1) < q - j from zo)
      ·have hx22 : 1 ≤ ka0 (ka1 ms j ([] : List Int)) := hN.at zo
       refine vY (qD 6 [.b true, .no, .no, .n 0, .d (D.lit (.int .i64 (ka1 (ka1 ms j ([] : List Int)) 0 0))), .no, .n 0, .d (D.lit (.int .i64 (ka1 (yA (kN l i2)) 0 0))), .b false, .no, .no, .no]) ((((((ka0 (ka1 ms j ([] : List Int))) : Nat) : Int) = (ka0 (yA (kN l i2)) : Int))) ∧ (kM 0) ∧ ((0 : Nat) < (ka0 (ka1 ms j ([] : List Int)))) ∧ ((ka3 0 (dI .i64 (ka1 ms j ([] : List Int))))[0]? = some (D.lit (.int .i64 (ka1 (ka1 ms j ([] : List Int)) 0 0)))) ∧ (kM 0) ∧ ((0 : Nat) < (ka0 (yA (kN l i2)))) ∧ ((ka3 0 (dI .i64 (yA (kN l i2))))[0]? = some (D.lit (.int .i64 (ka1 (yA (kN l i2)) 0 0)))) ∧ (¬ ((ka1 (ka1 ms j ([] : List Int)) 0 0) = (ka1 (yA (kN l i2)) 0 0)))) [(0, rV 0 0), (2, rV 1 0), (3, rV 2 0), (5, iV ((((1 + (kD (yV kO (kL l) 4) 3)) : Nat) : Int) - ↑i2)), (6, sV .i64 (yA (kN l i2)) (ka0 (yA (kN l i2)))), (7, bV false), (56, oV 6 0 q 1), (57, uV q), (58, uV j)] [(0, some (70, (vP l i2))), (1, some (63, uR)), (2, some (63, (vZ y l q))), (6, some (38, .ds (kI ms)))] 7 ⟨zo, rfl, zo, (yG _ _ _ zo), rfl, zo, (yG _ _ _ zo), zo⟩ ?_
       refine u2 [.w, .no] (uZ ((j : Int) + 1)) [(0, rV 0 0), (2, rV 1 0), (3, rV 2 0), (5, iV ((((1 + (kD (yV kO (kL l) 4) 3)) : Nat) : Int) - ↑i2)), (6, sV .i64 (yA (kN l i2)) (ka0 (yA (kN l i2)))), (7, bV false), (56, oV 6 0 q 1), (57, uV q), (58, iV (↑j + 1))] ⟨by omega, by omega⟩ ?_
       exact kV ⟨(((j + 1) : Nat), (false : Bool)), ⟨zo, (by exact u92 zo hf zo)⟩⟩ [] (P := (kG 0) ∧ (kG 0) ∧ (kG 0) ∧ (kM ((((1 + (kD (yV kO (kL l) 4) 3)) : Nat) : Int) - (i2 : Int))) ∧ (kJ (dI .i64 (yA (kN l i2)))) ∧ (kG (ka0 (yA (kN l i2)))) ∧ ((false) = false) ∧ (kG 0) ∧ (kG q) ∧ (kM (q : Int)) ∧ (bU j) ∧ (kJ [db (kC (kN l i2) 7) (ka0 (kC (kN l i2) 7))]) ∧ (kJ [iD 0, qJ, qJ, qJ]) ∧ (kM y) ∧ (kJ (dI .i64 (y9 l))) ∧ (kG (vE (aJ qW (qV l) 5) (aC qW (qV l) 5))) ∧ (kG 0) ∧ (kG q) ∧ (kJ (dI .i64 (vL l))) ∧ (kG (vE (aJ kO (kL l) 4) (aC kO (kL l) 4))) ∧ (kJ (kI ms))) zk ⟨rfl, rfl, rfl, rfl, rfl, rfl, (by rfl), rfl, rfl, rfl, (by rfl), rfl, rfl, rfl, rfl, rfl, rfl, rfl, rfl, rfl, rfl⟩ (show q - (j + 1) < q - j from zo)
     ·have hx23 : 1 ≤ ka0 (ka1 ms j ([] : List Int)) := hN.at zo
      refine vY (qD 6 (.b false :: qD 4 [])) (¬ ((((ka0 (ka1 ms j ([] : List Int))) : Nat) : Int) = (ka0 (yA (kN l i2)) : Int))) [(0, rV 0 0), (2, rV 1 0), (3, rV 2 0), (5, iV ((((1 + (kD (yV kO (kL l) 4) 3)) : Nat) : Int) - ↑i2)), (6, sV .i64 (yA (kN l i2)) (ka0 (yA (kN l i2)))), (7, bV false), (56, oV 6 0 q 1), (57, uV q), (58, uV j)] [(0, some (70, (vP l i2))), (1, some (63, uR)), (2, some (63, (vZ y l q))), (6, some (38, .ds (kI ms)))] 7 zo ?_
      refine u2 [.w, .no] (uZ ((j : Int) + 1)) [(0, rV 0 0), (2, rV 1 0), (3, rV 2 0), (5, iV ((((1 + (kD (yV kO (kL l) 4) 3)) : Nat) : Int) - ↑i2)), (6, sV .i64 (yA (kN l i2)) (ka0 (yA (kN l i2)))), (7, bV false), (56, oV 6 0 q 1), (57, uV q), (58, iV (↑j + 1))] ⟨by omega, by omega⟩ ?_
      exact kV ⟨(((j + 1) : Nat), (false : Bool)), ⟨zo, (by exact u92 zo hf zo)⟩⟩ [] (P := (kG 0) ∧ (kG 0) ∧ (kG 0) ∧ (kM ((((1 + (kD (yV kO (kL l) 4) 3)) : Nat) : Int) - (i2 : Int))) ∧ (kJ (dI .i64 (yA (kN l i2)))) ∧ (kG (ka0 (yA (kN l i2)))) ∧ ((false) = false) ∧ (kG 0) ∧ (kG q) ∧ (kM (q : Int)) ∧ (bU j) ∧ (kJ [db (kC (kN l i2) 7) (ka0 (kC (kN l i2) 7))]) ∧ (kJ [iD 0, qJ, qJ, qJ]) ∧ (kM y) ∧ (kJ (dI .i64 (y9 l))) ∧ (kG (vE (aJ qW (qV l) 5) (aC qW (qV l) 5))) ∧ (kG 0) ∧ (kG q) ∧ (kJ (dI .i64 (vL l))) ∧ (kG (vE (aJ kO (kL l) 4) (aC kO (kL l) 4))) ∧ (kJ (kI ms))) zk ⟨rfl, rfl, rfl, rfl, rfl, rfl, (by rfl), rfl, rfl, rfl, (by rfl), rfl, rfl, rfl, rfl, rfl, rfl, rfl, rfl, rfl, rfl⟩ (show q - (j + 1) < q - j from zo)
   ·refine kH [.b false] (¬ ((j : Int) < (q : Int))) [(0, rV 0 0), (2, rV 1 0), (3, rV 2 0), (5, iV ((((1 + (kD (yV kO (kL l) 4) 3)) : Nat) : Int) - ↑i2)), (6, sV .i64 (yA (kN l i2)) (ka0 (yA (kN l i2)))), (7, uJ (D.lit (.bool (f)))), (56, oV 6 0 q 1), (57, uV q), (58, uV j), (59, bV false)] [(0, some (70, (vP l i2))), (1, some (63, uR)), (2, some (63, (vZ y l q))), (6, some (38, .ds (kI ms)))] 7 zo ?_
    refine AW.seq ?_
    refine zf ?_
    refine AW.exit ?_
    rcases Bool.eq_false_or_eq_true (f) with hx24 | hx24
    ·subst hx24
     refine kH [.no, .no] True [(0, rV 0 0), (2, rV 1 0), (3, rV 2 0), (5, iV ((((1 + (kD (yV kO (kL l) 4) 3)) : Nat) : Int) - ↑i2)), (6, sV .i64 (yA (kN l i2)) (ka0 (yA (kN l i2)))), (81, bV false)] [(0, some (70, (vP l i2))), (1, some (63, uR)), (2, some (63, (vZ y l q))), (6, some (38, .ds (kI ms)))] 7 trivial ?_
     refine uP ?_
     refine u2 [.no, .w, .no] ((-9223372036854775808) ≤ (((((1 + (kD (yV kO (kL l) 4) 3)) : Nat) : Int) - (i2 : Int)) - 1) ∧ (((((1 + (kD (yV kO (kL l) 4) 3)) : Nat) : Int) - (i2 : Int)) - 1) ≤ 9223372036854775807) [(0, rV 0 0), (2, rV 1 0), (3, rV 2 0), (5, iV (((((1 + (kD (yV kO (kL l) 4) 3)) : Nat) : Int) - ↑i2) - 1))] ⟨by omega, by omega⟩ ?_
     exact kV ⟨(((i2 + 1) : Nat), (q : Nat), (ms : List (List Int))), ⟨zo, (by exact v4f hm (k4l hq.1 zo hf)), zo, (by assumption), (by assumption)⟩⟩ [] (P := (kG 0) ∧ (kG 0) ∧ (kG 0) ∧ ((((((1 + (kD (yV kO (kL l) 4) 3)) : Nat) : Int) - (((i2 + 1) : Nat) : Int)) : Int) = (((((1 + (kD (yV kO (kL l) 4) 3)) : Nat) : Int) - (i2 : Int)) - 1)) ∧ (([db (nD (yI l) (i2 + 1)) (ka0 (nD (yI l) (i2 + 1)))] : List D) = [db (kC (kN l i2) 7) (ka0 (kC (kN l i2) 7))]) ∧ (kJ [iD 0, qJ, qJ, qJ]) ∧ (kM y) ∧ (kJ (dI .i64 (y9 l))) ∧ (kG (vE (aJ qW (qV l) 5) (aC qW (qV l) 5))) ∧ (kG 0) ∧ (kG q) ∧ (kJ (dI .i64 (vL l))) ∧ (kG (vE (aJ kO (kL l) 4) (aC kO (kL l) 4))) ∧ (kJ (kI ms))) zk ⟨rfl, rfl, rfl, zo, (by rfl), rfl, rfl, rfl, rfl, rfl, rfl, rfl, rfl, rfl⟩ (show 1 + kD (yV kO (kL l) 4) 3 - (i2 + 1) < 1 + kD (yV kO (kL l) 4) 3 - i2 from zo)
    ·subst hx24
     refine kH [.no, .no] True [(0, rV 0 0), (2, rV 1 0), (3, rV 2 0), (5, iV ((((1 + (kD (yV kO (kL l) 4) 3)) : Nat) : Int) - ↑i2)), (6, sV .i64 (yA (kN l i2)) (ka0 (yA (kN l i2)))), (81, bV true)] [(0, some (70, (vP l i2))), (1, some (63, uR)), (2, some (63, (vZ y l q))), (6, some (38, .ds (kI ms)))] 7 trivial ?_
     refine zt ?_
     refine vY (qD 4 [.ap none (q + 1) (kI (ms ++ ([(yA (kN l i2))] : List (List Int)))), .no, .no]) (([dl (yA (kN l i2)) (ka0 (yA (kN l i2)))].length = 1 * 1) ∧ (((kI ms) : List D).length = q * 1) ∧ ((q + 1) * 24 ≤ 140737488355328) ∧ (q + 1 = (q + 1)) ∧ (((kI ms) : List D) ++ [dl (yA (kN l i2)) (ka0 (yA (kN l i2)))] = (kI (ms ++ ([(yA (kN l i2))] : List (List Int)))))) [(0, rV 0 0), (2, rV 1 0), (3, rV 2 0), (5, iV ((((1 + (kD (yV kO (kL l) 4) 3)) : Nat) : Int) - ↑i2))] [(0, some (70, (vP l i2))), (1, some (63, uR)), (2, some (63, .cs [iC y, .d (dl (y9 l) (vE (aJ qW (qV l) 5) (aC qW (qV l) 5))), .own 8 0 (q + 1) 1 true, .d (dl (vL l) (vE (aJ kO (kL l) 4) (aC kO (kL l) 4)))])), (8, some (38, .ds (kI (ms ++ ([(yA (kN l i2))] : List (List Int))))))] 9 ⟨lV, lV, zo, zo, (rJ ms (yA (kN l i2)) (ka0 (yA (kN l i2))) (by rfl))⟩ ?_
     refine u2 [.no, .w, .no] ((-9223372036854775808) ≤ (((((1 + (kD (yV kO (kL l) 4) 3)) : Nat) : Int) - (i2 : Int)) - 1) ∧ (((((1 + (kD (yV kO (kL l) 4) 3)) : Nat) : Int) - (i2 : Int)) - 1) ≤ 9223372036854775807) [(0, rV 0 0), (2, rV 1 0), (3, rV 2 0), (5, iV (((((1 + (kD (yV kO (kL l) 4) 3)) : Nat) : Int) - ↑i2) - 1))] ⟨by omega, by omega⟩ ?_
     exact kV ⟨(((i2 + 1) : Nat), ((q + 1) : Nat), ((ms ++ ([(yA (kN l i2))] : List (List Int))) : List (List Int))), ⟨zo, (by exact v4g hm (k4l hq.1 zo hf)), (by (simp only [qA, k9, ka8, kb0, kb2] <;> omega)), (by exact hN.snoc zo), (by exact hW.snoc (Nat.le_trans (z9 _) zo))⟩⟩ [(6, 8)] (P := (kG 0) ∧ (kG 0) ∧ (kG 0) ∧ ((((((1 + (kD (yV kO (kL l) 4) 3)) : Nat) : Int) - (((i2 + 1) : Nat) : Int)) : Int) = (((((1 + (kD (yV kO (kL l) 4) 3)) : Nat) : Int) - (i2 : Int)) - 1)) ∧ (([db (nD (yI l) (i2 + 1)) (ka0 (nD (yI l) (i2 + 1)))] : List D) = [db (kC (kN l i2) 7) (ka0 (kC (kN l i2) 7))]) ∧ (kJ [iD 0, qJ, qJ, qJ]) ∧ (kM y) ∧ (kJ (dI .i64 (y9 l))) ∧ (kG (vE (aJ qW (qV l) 5) (aC qW (qV l) 5))) ∧ (kG 0) ∧ (kG (q + 1)) ∧ (kJ (dI .i64 (vL l))) ∧ (kG (vE (aJ kO (kL l) 4) (aC kO (kL l) 4))) ∧ (kJ (kI (ms ++ ([(yA (kN l i2))] : List (List Int)))))) zk ⟨rfl, rfl, rfl, zo, (by rfl), rfl, rfl, rfl, rfl, rfl, rfl, rfl, rfl, rfl⟩ (show 1 + kD (yV kO (kL l) 4) 3 - (i2 + 1) < 1 + kD (yV kO (kL l) 4) 3 - i2 from zo)
  ·refine kH [.no, .b false] (¬ ((0 : Int) < ((((1 + (kD (yV kO (kL l) 4) 3)) : Nat) : Int) - (i2 : Int)))) [(0, rV 0 0), (2, rV 1 0), (3, rV 2 0), (5, iV ((((1 + (kD (yV kO (kL l) 4) 3)) : Nat) : Int) - ↑i2)), (50, bV false)] [(0, some (70, .ds [db (kN l i2) (ka0 (kN l i2))])), (1, some (63, uR)), (2, some (63, (vZ y l q))), (6, some (38, .ds (kI ms)))] 7 zo ?_
   refine zf ?_
   refine AW.exit ?_
   refine kH [.no, .no] True [(2, rV 1 0)] [(0, some (70, .ds [db (kN l i2) (ka0 (kN l i2))])), (1, some (63, (vZ y l q))), (6, some (38, .ds (kI ms)))] 7 trivial ?_
   obtain rfl : i2 = (1 + (kD (yV kO (kL l) 4) 3)) := (by omega)
   refine AW.freeze 6 (l' := [(2, rV 1 0)]) (g' := [(0, some (70, .ds [db (nD (yI l) (1 + (kD (yV kO (kL l) 4) 3))) (ka0 (nD (yI l) (1 + (kD (yV kO (kL l) 4) 3))))])), (1, some (63, .ds [iD y, dl (y9 l) (vE (aJ qW (qV l) 5) (aC qW (qV l) 5)), D.sl (kI ms) q, dl (vL l) (vE (aJ kO (kL l) 4) (aC kO (kL l) 4))]))]) rfl (FzS.cons rfl (.same _) FzS.nil) (u1 rfl rfl (FzG.to (bc := .cs [iC y, .d (dl (y9 l) (vE (aJ qW (qV l) 5) (aC qW (qV l) 5))), .own 6 0 q 1 true, .d (dl (vL l) (vE (aJ kO (kL l) 4) (aC kO (kL l) 4)))]) rfl (by rfl) (FzL.cons (.same _) (FzL.cons (.same _) (FzL.cons (@FzC.own 6 ((kI ms) : List D) 0 q 1 true ((kI ms) : List D) (by rw [List.drop_zero, Nat.mul_one, kb7 (by (simp only [qA, k9, qP, ka8, kb0, kb2, kb4, kb6, kb5, kc1, kc3, kc0, Nat.mul_one] <;> omega))]) lV) (FzL.cons (.same _) FzL.nil)))) FzG.nil)) ?_
   have hz1 : xH l = y := hy
   have hz2 : j7 l = ms := hm
   refine AW.ret ?_
   exact kA (.inr rfl) [] (P := (((xH l) : Int) = y) ∧ (((dI .i64 (xG l)) : List D) = (dI .i64 (y9 l))) ∧ (((tM l) : Nat) = (vE (aJ qW (qV l) 5) (aC qW (qV l) 5))) ∧ (((kI (j7 l)) : List D) = (kI ms)) ∧ (((ka0 (j7 l)) : Nat) = q) ∧ (((dI .i64 (xF l)) : List D) = (dI .i64 (vL l))) ∧ (((tL l) : Nat) = (vE (aJ kO (kL l) 4) (aC kO (kL l) 4))) ∧ (([db (boD l) (ka0 (boD l))] : List D) = [db (nD (yI l) (1 + (kD (yV kO (kL l) 4) 3))) (ka0 (nD (yI l) (1 + (kD (yV kO (kL l) 4) 3))))])) zk ⟨(by exact hz1), (by rfl), (by rfl), (by (rw [hz2]; done)), (by (rw [hz2]; omega)), (by rfl), (by rfl), (by rfl)⟩
end Go.Proofs.YtbicifcgghmhaaaGreat
