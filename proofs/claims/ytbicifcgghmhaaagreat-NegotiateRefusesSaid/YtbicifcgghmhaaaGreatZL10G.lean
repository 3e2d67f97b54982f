/- Lists of boxes out of dice. No statement is proved here. -/
import Derived.Test.YtbicifcgghmhaaaGreatZL10F
namespace Go.Proofs.YtbicifcgghmhaaaGreat
open Go.ChangeShapes Go.WideShapes Go.ChangeAt Go.RowKit
open List renaming length → ka0
set_option linter.unusedVariables false
set_option linter.unusedSimpArgs false
attribute [local irreducible] aV vE aQ e7 vP kA kD yU oL eC oN oM
def kF (k : Int) (r : List Int) (rn : Nat) (m : List (List Int)) (s : List Int) (sn : Nat) : Bx := ⟨k, r, rn, m, s, sn⟩
theorem tT (xs : List Bx) (k : Int) (r : List Int) (rn : Nat) (m : List (List Int)) (c : Nat) (s : List Int) (sn : Nat) (h : m.length = c) : kV xs ++ [D.lit (.int .i64 k), D.sl (dI .i64 r) rn, D.sl (kL m) c, D.sl (dI .i64 s) sn] = kV (xs ++ [kF k r rn m s sn]) := by
 subst h; rw [mS]; rfl
def boX (l : List Int) : Bx := kF (zQ l) (zP l) (wO l) (mB l) (zO l) (wN l)
def vB (l : List Int) : Nat → List Int
 | 0 => l
 | i + 1 => boD (vB l i)
def bbL (l : List Int) : Nat → List Bx
 | 0 => []
 | i + 1 => bbL l i ++ [boX (vB l i)]
theorem u2u {l : List Int} (h : Byt l) : Byt (boD l) := by
 unfold boD bo5 bo4 bo3 bo2 bo1
 exact i0 (qR _ (aM (aM (aB (qR _ (qR _ h)) _)))) _
theorem gG {l : List Int} (h : Byt l) : ∀ i, Byt (vB l i)
 | 0 => h
 | i + 1 => u2u (gG h i)
theorem k6o (l : List Int) : 1 + kA l 3 ≤ 1000000 := by
 by_cases h : l.length = 0 ∨ (3 : Int) ≤ 1
 ·have := d9 h; omega
 ·have h1 : kA l 3 = (List.getD l 0 0 % 3).toNat := by unfold kA; exact if_neg h
  have := Int.emod_lt_of_pos (List.getD l 0 0) (b := 3) (by omega)
  omega
theorem u4y (l : List Int) : BxW (boX l) := by
 have h1 := nZ (aV rtT (bo2 l) 5) (aQ rtT (bo2 l) 5)
 have h2 := nZ (aV szT (bo3 l) 4) (aQ szT (bo3 l) 4)
 have h3 := k0z (bo5 l) (boN l)
 have h5 := k6o (bo4 l)
 show ka0 (zP l) = wO l * 2 ∧ ka0 (zO l) = wN l * 2 ∧ wO l ≤ 1000000 ∧ wN l ≤ 1000000 ∧ ka0 (mB l) ≤ 1000000 ∧ MsW (mB l)
 unfold zP wO zO wN mB
 refine ⟨i4 _ _, i4 _ _, ?_, ?_, ?_, k6r _ _⟩
 ·exact Nat.le_trans h1.2 (by omega)
 ·exact Nat.le_trans h2.2 (by omega)
 ·exact Nat.le_trans h3 h5
theorem tY (l : List Int) : ∀ i, ka0 (bbL l i) = i
 | 0 => rfl
 | i + 1 => by rw [bbL, List.length_append, tY l i]; rfl
theorem u52 (l : List Int) : ∀ i, BsW (bbL l i)
 | 0 => BsW.nil
 | i + 1 => (u52 l i).app (BsW.one (u4y _))
theorem v4c {l : List Int} {i : Nat} {bs : List Bx} (h : bbL l i = bs) : bbL l (i + 1) = bs ++ [kF (zQ (vB l i)) (zP (vB l i)) (wO (vB l i)) (mB (vB l i)) (zO (vB l i)) (wN (vB l i))] := by
 subst h; rfl
theorem BsW.box {xs : List Bx} (h : BsW xs) (i : Nat) : BxW (kF (kU xs i) (qG xs i) (qA xs i) (kX xs i) (qF xs i) (k9 xs i)) := h.get i
end Go.Proofs.YtbicifcgghmhaaaGreat
