/- Lists of boxes out of dice. No statement is proved here. -/
import Derived.Test.YtbicifcgghmhaaaGreatZL10F
namespace Go.Proofs.YtbicifcgghmhaaaGreat
open Go.ChangeShapes Go.WideShapes Go.ChangeAt Go.RowKit
open List renaming length → ka0
set_option linter.unusedVariables false
set_option linter.unusedSimpArgs false
attribute [local irreducible] aJ yV aC d5 vE kD kC yA nB dH nD nC
def kE (k : Int) (r : List Int) (rn : Nat) (m : List (List Int)) (s : List Int) (sn : Nat) : Bx := ⟨k, r, rn, m, s, sn⟩
theorem sO (xs : List Bx) (k : Int) (r : List Int) (rn : Nat) (m : List (List Int)) (c : Nat) (s : List Int) (sn : Nat) (h : m.length = c) : kP xs ++ [D.lit (.int .i64 k), D.sl (dI .i64 r) rn, D.sl (kI m) c, D.sl (dI .i64 s) sn] = kP (xs ++ [kE k r rn m s sn]) := by
 subst h; rw [lO]; rfl
def boX (l : List Int) : Bx := kE (xH l) (xG l) (tM l) (j7 l) (xF l) (tL l)
def yS (l : List Int) : Nat → List Int
 | 0 => l
 | i + 1 => boD (yS l i)
def bbL (l : List Int) : Nat → List Bx
 | 0 => []
 | i + 1 => bbL l i ++ [boX (yS l i)]
theorem u2m {l : List Int} (h : Byt l) : Byt (boD l) := by
 unfold boD bo5 bo4 bo3 bo2 bo1
 exact gX (qI _ (aA (aA (vS (qI _ (qI _ h)) _)))) _
theorem fN {l : List Int} (h : Byt l) : ∀ i, Byt (yS l i)
 | 0 => h
 | i + 1 => u2m (fN h i)
theorem k64 (l : List Int) : 1 + kD l 3 ≤ 1000000 := by
 by_cases h : l.length = 0 ∨ (3 : Int) ≤ 1
 ·have := fE h; omega
 ·have h1 : kD l 3 = (List.getD l 0 0 % 3).toNat := by unfold kD; exact if_neg h
  have := Int.emod_lt_of_pos (List.getD l 0 0) (b := 3) (by omega)
  omega
theorem u4w (l : List Int) : zA (boX l) := by
 have h1 := mQ (aJ rtT (bo2 l) 5) (aC rtT (bo2 l) 5)
 have h2 := mQ (aJ szT (bo3 l) 4) (aC szT (bo3 l) 4)
 have h3 := z8 (bo5 l) (boN l)
 have h5 := k64 (bo4 l)
 show ka0 (xG l) = tM l * 2 ∧ ka0 (xF l) = tL l * 2 ∧ tM l ≤ 1000000 ∧ tL l ≤ 1000000 ∧ ka0 (j7 l) ≤ 1000000 ∧ MsW (j7 l)
 unfold xG tM xF tL j7
 refine ⟨gZ _ _, gZ _ _, ?_, ?_, ?_, k69 _ _⟩
 ·exact Nat.le_trans h1.2 (by omega)
 ·exact Nat.le_trans h2.2 (by omega)
 ·exact Nat.le_trans h3 h5
theorem sT (l : List Int) : ∀ i, ka0 (bbL l i) = i
 | 0 => rfl
 | i + 1 => by rw [bbL, List.length_append, sT l i]; rfl
theorem u50 (l : List Int) : ∀ i, BsW (bbL l i)
 | 0 => BsW.nil
 | i + 1 => (u50 l i).app (BsW.one (u4w _))
theorem v58 {l : List Int} {i : Nat} {bs : List Bx} (h : bbL l i = bs) : bbL l (i + 1) = bs ++ [kE (xH (yS l i)) (xG (yS l i)) (tM (yS l i)) (j7 (yS l i)) (xF (yS l i)) (tL (yS l i))] := by
 subst h; rfl
theorem BsW.box {xs : List Bx} (h : BsW xs) (i : Nat) : zA (kE (kR xs i) (k8 xs i) (kU xs i) (kS xs i) (kZ xs i) (kT xs i)) := h.get i
end Go.Proofs.YtbicifcgghmhaaaGreat
