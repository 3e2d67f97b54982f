/- Lists of boxes out of dice. No statement is proved here. -/
import Derived.Test.YtalbpleglapihaaZL10F
namespace Go.Proofs.Ytalbpleglapihaa
open Go.ChangeShapes Go.WideShapes Go.ChangeAt Go.RowKit
open List renaming length → ka1
set_option linter.unusedVariables false
set_option linter.unusedSimpArgs false
attribute [local irreducible] y3 uZ y1 bH yG kB kA uL iW aT i0 iZ
def bX (k : Int) (r : List Int) (rn : Nat) (m : List (List Int)) (s : List Int) (sn : Nat) : Bx := ⟨k, r, rn, m, s, sn⟩
theorem wX (xs : List Bx) (k : Int) (r : List Int) (rn : Nat) (m : List (List Int)) (c : Nat) (s : List Int) (sn : Nat) (h : m.length = c) : qI xs ++ [D.lit (.int .i64 k), D.sl (dI .i64 r) rn, D.sl (qA m) c, D.sl (dI .i64 s) sn] = qI (xs ++ [bX k r rn m s sn]) := by
 subst h; rw [wY]; rfl
def boX (l : List Int) : Bx := bX (pV l) (pU l) (nY l) (fT l) (pT l) (nX l)
def uY (l : List Int) : Nat → List Int
 | 0 => l
 | i + 1 => zJ (uY l i)
def bbL (l : List Int) : Nat → List Bx
 | 0 => []
 | i + 1 => bbL l i ++ [boX (uY l i)]
theorem k5x {l : List Int} (h : Byt l) : Byt (zJ l) := by
 unfold zJ bo5 bo4 bo3 bo2 bo1
 exact dN (kF _ (y6 (y6 (yX (kF _ (kF _ h)) _)))) _
theorem eC {l : List Int} (h : Byt l) : ∀ i, Byt (uY l i)
 | 0 => h
 | i + 1 => k5x (eC h i)
theorem k10 (l : List Int) : 1 + kB l 3 ≤ 1000000 := by
 by_cases h : l.length = 0 ∨ (3 : Int) ≤ 1
 ·have := aQ h; omega
 ·have h1 : kB l 3 = (List.getD l 0 0 % 3).toNat := by unfold kB; exact if_neg h
  have := Int.emod_lt_of_pos (List.getD l 0 0) (b := 3) (by omega)
  omega
theorem k78 (l : List Int) : BxW (boX l) := by
 have h1 := hU (y3 rtT (bo2 l) 5) (y1 rtT (bo2 l) 5)
 have h2 := hU (y3 szT (bo3 l) 4) (y1 szT (bo3 l) 4)
 have h3 := sM (bo5 l) (boN l)
 have h5 := k10 (bo4 l)
 show ka1 (pU l) = nY l * 2 ∧ ka1 (pT l) = nX l * 2 ∧ nY l ≤ 1000000 ∧ nX l ≤ 1000000 ∧ ka1 (fT l) ≤ 1000000 ∧ MsW (fT l)
 unfold pU nY pT nX fT
 refine ⟨dO _ _, dO _ _, ?_, ?_, ?_, k13 _ _⟩
 ·exact Nat.le_trans h1.2 (by omega)
 ·exact Nat.le_trans h2.2 (by omega)
 ·exact Nat.le_trans h3 h5
theorem nH (l : List Int) : ∀ i, ka1 (bbL l i) = i
 | 0 => rfl
 | i + 1 => by rw [bbL, List.length_append, nH l i]; rfl
theorem wZ (l : List Int) : ∀ i, BsW (bbL l i)
 | 0 => BsW.nil
 | i + 1 => (wZ l i).app (BsW.one (k78 _))
theorem u4l {l : List Int} {i : Nat} {bs : List Bx} (h : bbL l i = bs) : bbL l (i + 1) = bs ++ [bX (pV (uY l i)) (pU (uY l i)) (nY (uY l i)) (fT (uY l i)) (pT (uY l i)) (nX (uY l i))] := by
 subst h; rfl
theorem BsW.box {xs : List Bx} (h : BsW xs) (i : Nat) : BxW (bX (cL xs i) (dF xs i) (vZ xs i) (vI xs i) (fW xs i) (cK xs i)) := h.get i
end Go.Proofs.Ytalbpleglapihaa
