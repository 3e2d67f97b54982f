/- Lists of boxes out of dice. No statement is proved here. -/
import Derived.Test.YtbicifcgghmhaaaGreatZL10F
namespace Go.Proofs.YtbicifcgghmhaaaGreat
open Go.ChangeShapes Go.WideShapes Go.ChangeAt Go.RowKit
open List renaming length → ka0
set_option linter.unusedVariables false
set_option linter.unusedSimpArgs false
attribute [local irreducible] aS y9 aN eX vM kA kC yP oH d9 oJ oI
def kD (k : Int) (r : List Int) (rn : Nat) (m : List (List Int)) (s : List Int) (sn : Nat) : Bx := ⟨k, r, rn, m, s, sn⟩
theorem tS (xs : List Bx) (k : Int) (r : List Int) (rn : Nat) (m : List (List Int)) (c : Nat) (s : List Int) (sn : Nat) (h : m.length = c) : kU xs ++ [D.lit (.int .i64 k), D.sl (dI .i64 r) rn, D.sl (kK m) c, D.sl (dI .i64 s) sn] = kU (xs ++ [kD k r rn m s sn]) := by
 subst h; rw [mQ]; rfl
def boX (l : List Int) : Bx := kD (zQ l) (zP l) (wM l) (mA l) (zO l) (wL l)
def y6 (l : List Int) : Nat → List Int
 | 0 => l
 | i + 1 => boD (y6 l i)
def bbL (l : List Int) : Nat → List Bx
 | 0 => []
 | i + 1 => bbL l i ++ [boX (y6 l i)]
theorem u3a {l : List Int} (h : Byt l) : Byt (boD l) := by
 unfold boD bo5 bo4 bo3 bo2 bo1
 exact iZ (qR _ (aJ (aJ (v8 (qR _ (qR _ h)) _)))) _
theorem gG {l : List Int} (h : Byt l) : ∀ i, Byt (y6 l i)
 | 0 => h
 | i + 1 => u3a (gG h i)
theorem k6z (l : List Int) : 1 + kA l 3 ≤ 1000000 := by
 by_cases h : l.length = 0 ∨ (3 : Int) ≤ 1
 ·have := d5 h; omega
 ·have h1 : kA l 3 = (List.getD l 0 0 % 3).toNat := by unfold kA; exact if_neg h
  have := Int.emod_lt_of_pos (List.getD l 0 0) (b := 3) (by omega)
  omega
theorem u5f (l : List Int) : BxW (boX l) := by
 have h1 := nU (aS rtT (bo2 l) 5) (aN rtT (bo2 l) 5)
 have h2 := nU (aS szT (bo3 l) 4) (aN szT (bo3 l) 4)
 have h3 := k12 (bo5 l) (boN l)
 have h5 := k6z (bo4 l)
 show ka0 (zP l) = wM l * 2 ∧ ka0 (zO l) = wL l * 2 ∧ wM l ≤ 1000000 ∧ wL l ≤ 1000000 ∧ ka0 (mA l) ≤ 1000000 ∧ MsW (mA l)
 unfold zP wM zO wL mA
 refine ⟨i0 _ _, i0 _ _, ?_, ?_, ?_, k72 _ _⟩
 ·exact Nat.le_trans h1.2 (by omega)
 ·exact Nat.le_trans h2.2 (by omega)
 ·exact Nat.le_trans h3 h5
theorem tY (l : List Int) : ∀ i, ka0 (bbL l i) = i
 | 0 => rfl
 | i + 1 => by rw [bbL, List.length_append, tY l i]; rfl
theorem u5j (l : List Int) : ∀ i, BsW (bbL l i)
 | 0 => BsW.nil
 | i + 1 => (u5j l i).app (BsW.one (u5f _))
theorem v4s {l : List Int} {i : Nat} {bs : List Bx} (h : bbL l i = bs) : bbL l (i + 1) = bs ++ [kD (zQ (y6 l i)) (zP (y6 l i)) (wM (y6 l i)) (mA (y6 l i)) (zO (y6 l i)) (wL (y6 l i))] := by
 subst h; rfl
theorem BsW.box {xs : List Bx} (h : BsW xs) (i : Nat) : BxW (kD (kT xs i) (qE xs i) (k9 xs i) (kW xs i) (qD xs i) (k8 xs i)) := h.get i
end Go.Proofs.YtbicifcgghmhaaaGreat
