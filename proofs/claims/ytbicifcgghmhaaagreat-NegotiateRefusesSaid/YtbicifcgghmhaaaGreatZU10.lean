/- One box against one box. No statement is proved here. -/
import Derived.Test.YtbicifcgghmhaaaGreatZJ10
namespace Go.Proofs.YtbicifcgghmhaaaGreat
open Go.ChangeShapes Go.WideShapes Go.ChangeAt Go.RowKit
set_option linter.unusedVariables false
set_option linter.unusedSimpArgs false
def smN (k : Int) (c n m : Nat) : Nat := if ¬ k = 0 ∧ 1 ≤ c ∧ 1 ≤ n ∧ 1 ≤ m then 1 else 0
theorem k7g {a b : List Int} (h : iL a b ≤ 64) : uR a b = alS a b ∧ qT a b = iL a b := by
  obtain ⟨h1, h2⟩ := u4b (a := a) (b := b) rfl
  have h3 := u8a a b
  rw [Nat.min_eq_left h] at h1 h2
  exact ⟨by rw [h1]; exact List.take_of_length_le (by omega), h2⟩
theorem k6y {l : List Int} {n : Nat} (hl : l.length = n * 2) (hv : cD (qY l)) (h : 1 ≤ n) : ∃ x, fE l x = true := by
  have h1 := dE hv _ ((yR hl).2 ⟨0, by omega, rfl⟩)
  unfold dZ at h1
  exact ⟨List.getD l (0 * 2) 0, k7k hl (k := 0) (by omega) ⟨Int.le_refl _, h1.2.1⟩⟩
/-! a box with the dimensions of another one -/
def zK (d k k2 : Int) : Int := if qV d 1 = 0 then k else k2
def zL (d b : Int) (r r2 : List Int) : List Int := if qV d b = 0 then r else r2
def zN (d b : Int) (n n2 : Nat) : Nat := if qV d b = 0 then n else n2
def zM (d b : Int) (m m2 : List (List Int)) : List (List Int) := if qV d b = 0 then m else m2
/-! what is shared -/
theorem u35 {k : Int} (h : KG k) : ¬ qV k k = 0 := by
  obtain ⟨n, hn, _, _, rfl⟩ := h.nat2
  rw [k1m hn hn, Nat.and_self]
  have := h.1; omega
def shP (xs ys : List Bx) (i j : Nat) : Prop × Prop × Prop × Prop := (¬ qV (kU xs i) (kU ys j) = 0, 1 ≤ qT (kC (qG xs i) (qA xs i)) (kC (qG ys j) (qA ys j)), 1 ≤ List.length (u9 (kX xs i) (kX ys j) (List.length (kX xs i))), 1 ≤ qT (kC (qF xs i) (k9 xs i)) (kC (qF ys j) (k9 ys j)))
theorem BsF.at {xs : List Bx} (h : BsF xs) {i : Nat} (hi : i < xs.length) : qA xs i ≤ 5 ∧ k9 xs i ≤ 5 := h _ (yS hi)
theorem u8x {d k k2 : Int} (h : qV d 1 = 0) : zK d k k2 = k := if_pos h
theorem u8w {d k k2 : Int} (h : ¬ qV d 1 = 0) : zK d k k2 = k2 := if_neg h
theorem u0s {d b : Int} {r r2 : List Int} (h : qV d b = 0) : zL d b r r2 = r := if_pos h
theorem u0r {d b : Int} {r r2 : List Int} (h : ¬ qV d b = 0) : zL d b r r2 = r2 := if_neg h
theorem u0q {d b : Int} {n n2 : Nat} (h : qV d b = 0) : zN d b n n2 = n := if_pos h
theorem u0p {d b : Int} {n n2 : Nat} (h : ¬ qV d b = 0) : zN d b n n2 = n2 := if_neg h
theorem u8v {d b : Int} {m m2 : List (List Int)} (h : qV d b = 0) : zM d b m m2 = m := if_pos h
theorem u8u {d b : Int} {m m2 : List (List Int)} (h : ¬ qV d b = 0) : zM d b m m2 = m2 := if_neg h
theorem u68 {xs : List Bx} (h : xs.length = 1) (hv : dA xs = true) : bG xs = [kF (kU xs 0) (qG xs 0) (qA xs 0) (kX xs 0) (qF xs 0) (k9 xs 0)] ∧ jR xs = 0 := by
  obtain ⟨r1, r2⟩ := k5t hv
  refine ⟨?_, r2⟩
  rw [r1, h]
  show (if goB xs 0 = true then [] else [bxP xs 0]) = _
  rw [if_neg (by rw [u1v fun j hj => k7o (show j = 0 by omega)]; decide)]; rfl
end Go.Proofs.YtbicifcgghmhaaaGreat
