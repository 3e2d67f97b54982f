/- One box against one box. No statement is proved here. -/
import Derived.Test.YtbicifcgghmhaaaGreatZK10
namespace Go.Proofs.YtbicifcgghmhaaaGreat
open Go.ChangeShapes Go.WideShapes Go.ChangeAt Go.RowKit
set_option linter.unusedVariables false
set_option linter.unusedSimpArgs false
def smN (k : Int) (c n m : Nat) : Nat := if ¬ k = 0 ∧ 1 ≤ c ∧ 1 ≤ n ∧ 1 ≤ m then 1 else 0
theorem k7q {a b : List Int} (h : gZ a b ≤ 64) : uF a b = alS a b ∧ qK a b = gZ a b := by
  obtain ⟨h1, h2⟩ := u51 (a := a) (b := b) rfl
  have h3 := u90 a b
  rw [Nat.min_eq_left h] at h1 h2
  exact ⟨by rw [h1]; exact List.take_of_length_le (by omega), h2⟩
theorem k74 {l : List Int} {n : Nat} (hl : l.length = n * 2) (hv : bW (qO l)) (h : 1 ≤ n) : ∃ x, bA l x = true := by
  have h1 := cW hv _ ((u7 hl).2 ⟨0, by omega, rfl⟩)
  unfold dD at h1
  exact ⟨List.getD l (0 * 2) 0, u2j hl (k := 0) (by omega) ⟨Int.le_refl _, h1.2.1⟩⟩
/-! a box with the dimensions of another one -/
def zK (d k k2 : Int) : Int := if qG d 1 = 0 then k else k2
def zL (d b : Int) (r r2 : List Int) : List Int := if qG d b = 0 then r else r2
def zN (d b : Int) (n n2 : Nat) : Nat := if qG d b = 0 then n else n2
def zM (d b : Int) (m m2 : List (List Int)) : List (List Int) := if qG d b = 0 then m else m2
/-! what is shared -/
theorem u3u {k : Int} (h : KG k) : ¬ qG k k = 0 := by
  obtain ⟨n, hn, _, _, rfl⟩ := h.nat2
  rw [k15 hn hn, Nat.and_self]
  have := h.1; omega
def shP (xs ys : List Bx) (i j : Nat) : Prop × Prop × Prop × Prop := (¬ qG (kQ xs i) (kQ ys j) = 0, 1 ≤ qK (kB (kY xs i) (kV xs i)) (kB (kY ys j) (kV ys j)), 1 ≤ List.length (uS (kT xs i) (kT ys j) (List.length (kT xs i))), 1 ≤ qK (kB (kX xs i) (kU xs i)) (kB (kX ys j) (kU ys j)))
theorem BsF.at {xs : List Bx} (h : BsF xs) {i : Nat} (hi : i < xs.length) : kV xs i ≤ 5 ∧ kU xs i ≤ 5 := h _ (qM hi)
theorem v3z {d k k2 : Int} (h : qG d 1 = 0) : zK d k k2 = k := if_pos h
theorem v3y {d k k2 : Int} (h : ¬ qG d 1 = 0) : zK d k k2 = k2 := if_neg h
theorem u9l {d b : Int} {r r2 : List Int} (h : qG d b = 0) : zL d b r r2 = r := if_pos h
theorem u9k {d b : Int} {r r2 : List Int} (h : ¬ qG d b = 0) : zL d b r r2 = r2 := if_neg h
theorem u9j {d b : Int} {n n2 : Nat} (h : qG d b = 0) : zN d b n n2 = n := if_pos h
theorem u9i {d b : Int} {n n2 : Nat} (h : ¬ qG d b = 0) : zN d b n n2 = n2 := if_neg h
theorem v3x {d b : Int} {m m2 : List (List Int)} (h : qG d b = 0) : zM d b m m2 = m := if_pos h
theorem v3w {d b : Int} {m m2 : List (List Int)} (h : ¬ qG d b = 0) : zM d b m m2 = m2 := if_neg h
theorem k5u {xs : List Bx} (h : xs.length = 1) (hv : cF xs = true) : bD xs = [kE (kQ xs 0) (kY xs 0) (kV xs 0) (kT xs 0) (kX xs 0) (kU xs 0)] ∧ jB xs = 0 := by
  obtain ⟨r1, r2⟩ := k5x hv
  refine ⟨?_, r2⟩
  rw [r1, h]
  show (if goB xs 0 = true then [] else [bxP xs 0]) = _
  rw [if_neg (by rw [v2b fun j hj => u85 (show j = 0 by omega)]; decide)]; rfl
end Go.Proofs.YtbicifcgghmhaaaGreat
