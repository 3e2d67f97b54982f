/- Lists of boxes out of dice. No statement is proved here. -/
import Derived.Test.YtbicifcgghmhaaaGreatZL10F
namespace Go.Proofs.YtbicifcgghmhaaaGreat
open Go.ChangeShapes Go.WideShapes Go.ChangeAt Go.RowKit
open List renaming length → ka0
set_option linter.unusedVariables false
set_option linter.unusedSimpArgs false
attribute [local irreducible] aN yV aG d9 vI kD kC yC nW dL nY nX
def kE (k : Int) (r : List Int) (rn : Nat) (m : List (List Int)) (s : List Int) (sn : Nat) : Bx := ⟨k, r, rn, m, s, sn⟩
theorem iW (xs : List Bx) (k : Int) (r : List Int) (rn : Nat) (m : List (List Int)) (c : Nat) (s : List Int) (sn : Nat) (h : m.length = c) : kN xs ++ [D.lit (.int .i64 k), D.sl (dI .i64 r) rn, D.sl (kI m) c, D.sl (dI .i64 s) sn] = kN (xs ++ [kE k r rn m s sn]) := by
 subst h; rw [l6]; rfl
def boX (l : List Int) : Bx := kE (eL l) (eK l) (eD l) (b9 l) (eJ l) (eC l)
def yS (l : List Int) : Nat → List Int
 | 0 => l
 | i + 1 => boD (yS l i)
def bbL (l : List Int) : Nat → List Bx
 | 0 => []
 | i + 1 => bbL l i ++ [boX (yS l i)]
theorem u3m {l : List Int} (h : Byt l) : Byt (boD l) := by
 unfold boD bo5 bo4 bo3 bo2 bo1
 exact iH (qH _ (aE (aE (vW (qH _ (qH _ h)) _)))) _
theorem fX {l : List Int} (h : Byt l) : ∀ i, Byt (yS l i)
 | 0 => h
 | i + 1 => u3m (fX h i)
theorem k6s (l : List Int) : 1 + kD l 3 ≤ 1000000 := by
 by_cases h : l.length = 0 ∨ (3 : Int) ≤ 1
 ·have := fN h; omega
 ·have h1 : kD l 3 = (List.getD l 0 0 % 3).toNat := by unfold kD; exact if_neg h
  have := Int.emod_lt_of_pos (List.getD l 0 0) (b := 3) (by omega)
  omega
theorem u09 (l : List Int) : zS (boX l) := by
 have h1 := nF (aN rtT (bo2 l) 5) (aG rtT (bo2 l) 5)
 have h2 := nF (aN szT (bo3 l) 4) (aG szT (bo3 l) 4)
 have h3 := k0f (bo5 l) (boN l)
 have h5 := k6s (bo4 l)
 show ka0 (eK l) = eD l * 2 ∧ ka0 (eJ l) = eC l * 2 ∧ eD l ≤ 1000000 ∧ eC l ≤ 1000000 ∧ ka0 (b9 l) ≤ 1000000 ∧ MsW (b9 l)
 unfold eK eD eJ eC b9
 refine ⟨iJ _ _, iJ _ _, ?_, ?_, ?_, k6w _ _⟩
 ·exact Nat.le_trans h1.2 (by omega)
 ·exact Nat.le_trans h2.2 (by omega)
 ·exact Nat.le_trans h3 h5
theorem tF (l : List Int) : ∀ i, ka0 (bbL l i) = i
 | 0 => rfl
 | i + 1 => by rw [bbL, List.length_append, tF l i]; rfl
theorem u61 (l : List Int) : ∀ i, BsW (bbL l i)
 | 0 => BsW.nil
 | i + 1 => (u61 l i).app (BsW.one (u09 _))
theorem v67 {l : List Int} {i : Nat} {bs : List Bx} (h : bbL l i = bs) : bbL l (i + 1) = bs ++ [kE (eL (yS l i)) (eK (yS l i)) (eD (yS l i)) (b9 (yS l i)) (eJ (yS l i)) (eC (yS l i))] := by
 subst h; rfl
theorem BsW.box {xs : List Bx} (h : BsW xs) (i : Nat) : zS (kE (kQ xs i) (kY xs i) (kV xs i) (kT xs i) (kX xs i) (kU xs i)) := h.get i
end Go.Proofs.YtbicifcgghmhaaaGreat
