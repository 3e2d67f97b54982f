/- Lists of boxes out of dice. No statement is proved here. -/
import Derived.Test.YtalbpleglapihaaZL10F
namespace Go.Proofs.Ytalbpleglapihaa
open Go.ChangeShapes Go.WideShapes Go.ChangeAt Go.RowKit
open List renaming length → ka1
set_option linter.unusedVariables false
set_option linter.unusedSimpArgs false
attribute [local irreducible] y3 uY y1 bH yG kB kA uL iQ aT iW iU
def bW (k : Int) (r : List Int) (rn : Nat) (m : List (List Int)) (s : List Int) (sn : Nat) : Bx := ⟨k, r, rn, m, s, sn⟩
theorem wR (xs : List Bx) (k : Int) (r : List Int) (rn : Nat) (m : List (List Int)) (c : Nat) (s : List Int) (sn : Nat) (h : m.length = c) : qH xs ++ [D.lit (.int .i64 k), D.sl (dI .i64 r) rn, D.sl (qA m) c, D.sl (dI .i64 s) sn] = qH (xs ++ [bW k r rn m s sn]) := by
 subst h; rw [wS]; rfl
def boX (l : List Int) : Bx := bW (pV l) (pU l) (nZ l) (fO l) (pT l) (nY l)
def uX (l : List Int) : Nat → List Int
 | 0 => l
 | i + 1 => zD (uX l i)
def bbL (l : List Int) : Nat → List Bx
 | 0 => []
 | i + 1 => bbL l i ++ [boX (uX l i)]
theorem k5u {l : List Int} (h : Byt l) : Byt (zD l) := by
 unfold zD bo5 bo4 bo3 bo2 bo1
 exact dL (kF _ (y6 (y6 (yW (kF _ (kF _ h)) _)))) _
theorem d7 {l : List Int} (h : Byt l) : ∀ i, Byt (uX l i)
 | 0 => h
 | i + 1 => k5u (d7 h i)
theorem k0u (l : List Int) : 1 + kB l 3 ≤ 1000000 := by
 by_cases h : l.length = 0 ∨ (3 : Int) ≤ 1
 ·have := aQ h; omega
 ·have h1 : kB l 3 = (List.getD l 0 0 % 3).toNat := by unfold kB; exact if_neg h
  have := Int.emod_lt_of_pos (List.getD l 0 0) (b := 3) (by omega)
  omega
theorem k74 (l : List Int) : BxW (boX l) := by
 have h1 := hC (y3 rtT (bo2 l) 5) (y1 rtT (bo2 l) 5)
 have h2 := hC (y3 szT (bo3 l) 4) (y1 szT (bo3 l) 4)
 have h3 := sD (bo5 l) (boN l)
 have h5 := k0u (bo4 l)
 show ka1 (pU l) = nZ l * 2 ∧ ka1 (pT l) = nY l * 2 ∧ nZ l ≤ 1000000 ∧ nY l ≤ 1000000 ∧ ka1 (fO l) ≤ 1000000 ∧ MsW (fO l)
 unfold pU nZ pT nY fO
 refine ⟨dM _ _, dM _ _, ?_, ?_, ?_, k0x _ _⟩
 ·exact Nat.le_trans h1.2 (by omega)
 ·exact Nat.le_trans h2.2 (by omega)
 ·exact Nat.le_trans h3 h5
theorem nC (l : List Int) : ∀ i, ka1 (bbL l i) = i
 | 0 => rfl
 | i + 1 => by rw [bbL, List.length_append, nC l i]; rfl
theorem wT (l : List Int) : ∀ i, BsW (bbL l i)
 | 0 => BsW.nil
 | i + 1 => (wT l i).app (BsW.one (k74 _))
theorem u4g {l : List Int} {i : Nat} {bs : List Bx} (h : bbL l i = bs) : bbL l (i + 1) = bs ++ [bW (pV (uX l i)) (pU (uX l i)) (nZ (uX l i)) (fO (uX l i)) (pT (uX l i)) (nY (uX l i))] := by
 subst h; rfl
theorem BsW.box {xs : List Bx} (h : BsW xs) (i : Nat) : BxW (bW (cJ xs i) (dE xs i) (v3 xs i) (vI xs i) (fS xs i) (cI xs i)) := h.get i
end Go.Proofs.Ytalbpleglapihaa
