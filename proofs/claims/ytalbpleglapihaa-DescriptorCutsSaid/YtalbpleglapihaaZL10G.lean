/- Lists of boxes out of dice. No statement is proved here. -/
import Derived.Test.YtalbpleglapihaaZL10F
namespace Go.Proofs.Ytalbpleglapihaa
open Go.ChangeShapes Go.WideShapes Go.ChangeAt Go.RowKit
set_option linter.unusedVariables false
set_option linter.unusedSimpArgs false
attribute [local irreducible] y2 uY yY bF yF kB kA uL iM aR iQ iP
def bT (k : Int) (r : List Int) (rn : Nat) (m : List (List Int)) (s : List Int) (sn : Nat) : Bx := ⟨k, r, rn, m, s, sn⟩
theorem wN (xs : List Bx) (k : Int) (r : List Int) (rn : Nat) (m : List (List Int)) (c : Nat) (s : List Int) (sn : Nat) (h : m.length = c) : qH xs ++ [D.lit (.int .i64 k), D.sl (dI .i64 r) rn, D.sl (k9 m) c, D.sl (dI .i64 s) sn] = qH (xs ++ [bT k r rn m s sn]) := by
 subst h; rw [wO]; rfl
def boX (l : List Int) : Bx := bT (pR l) (pQ l) (nU l) (fJ l) (pP l) (nT l)
def uX (l : List Int) : Nat → List Int
 | 0 => l
 | i + 1 => x7 (uX l i)
def bbL (l : List Int) : Nat → List Bx
 | 0 => []
 | i + 1 => bbL l i ++ [boX (uX l i)]
theorem k5o {l : List Int} (h : Byt l) : Byt (x7 l) := by
 unfold x7 bo5 bo4 bo3 bo2 bo1
 exact dF (kF _ (y5 (y5 (yU (kF _ (kF _ h)) _)))) _
theorem dW {l : List Int} (h : Byt l) : ∀ i, Byt (uX l i)
 | 0 => h
 | i + 1 => k5o (dW h i)
theorem k0o (l : List Int) : 1 + kB l 3 ≤ 1000000 := by
 by_cases h : l.length = 0 ∨ (3 : Int) ≤ 1
 ·have := aO h; omega
 ·have h1 : kB l 3 = (List.getD l 0 0 % 3).toNat := by unfold kB; exact if_neg h
  have := Int.emod_lt_of_pos (List.getD l 0 0) (b := 3) (by omega)
  omega
theorem k6z (l : List Int) : BxW (boX l) := by
 have h1 := gZ (y2 rtT (bo2 l) 5) (yY rtT (bo2 l) 5)
 have h2 := gZ (y2 szT (bo3 l) 4) (yY szT (bo3 l) 4)
 have h3 := r9 (bo5 l) (boN l)
 have h5 := k0o (bo4 l)
 show List.length (pQ l) = nU l * 2 ∧ List.length (pP l) = nT l * 2 ∧ nU l ≤ 1000000 ∧ nT l ≤ 1000000 ∧ List.length (fJ l) ≤ 1000000 ∧ MsW (fJ l)
 unfold pQ nU pP nT fJ
 refine ⟨dG _ _, dG _ _, ?_, ?_, ?_, k0r _ _⟩
 ·exact Nat.le_trans h1.2 (by omega)
 ·exact Nat.le_trans h2.2 (by omega)
 ·exact Nat.le_trans h3 h5
theorem m7 (l : List Int) : ∀ i, List.length (bbL l i) = i
 | 0 => rfl
 | i + 1 => by rw [bbL, List.length_append, m7 l i]; rfl
theorem wP (l : List Int) : ∀ i, BsW (bbL l i)
 | 0 => BsW.nil
 | i + 1 => (wP l i).app (BsW.one (k6z _))
theorem u4b {l : List Int} {i : Nat} {bs : List Bx} (h : bbL l i = bs) : bbL l (i + 1) = bs ++ [bT (pR (uX l i)) (pQ (uX l i)) (nU (uX l i)) (fJ (uX l i)) (pP (uX l i)) (nT (uX l i))] := by
 subst h; rfl
theorem BsW.box {xs : List Bx} (h : BsW xs) (i : Nat) : BxW (bT (cE xs i) (c9 xs i) (vZ xs i) (vH xs i) (fN xs i) (cD xs i)) := h.get i
end Go.Proofs.Ytalbpleglapihaa
