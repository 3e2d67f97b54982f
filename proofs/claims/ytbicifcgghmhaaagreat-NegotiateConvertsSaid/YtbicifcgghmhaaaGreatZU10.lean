/- One box against one box. No statement is proved here. -/
import Derived.Test.YtbicifcgghmhaaaGreatZJ10
namespace Go.Proofs.YtbicifcgghmhaaaGreat
open Go.ChangeShapes Go.WideShapes Go.ChangeAt Go.RowKit
set_option linter.unusedVariables false
set_option linter.unusedSimpArgs false
def smN (k : Int) (c n m : Nat) : Nat := if ¬ k = 0 ∧ 1 ≤ c ∧ 1 ≤ n ∧ 1 ≤ m then 1 else 0
theorem k7t {a b : List Int} (h : iK a b ≤ 64) : uN a b = alS a b ∧ qT a b = iK a b := by
  obtain ⟨h1, h2⟩ := u4p (a := a) (b := b) rfl
  have h3 := u8p a b
  rw [Nat.min_eq_left h] at h1 h2
  exact ⟨by rw [h1]; exact List.take_of_length_le (by omega), h2⟩
theorem k79 {l : List Int} {n : Nat} (hl : l.length = n * 2) (hv : cB (qX l)) (h : 1 ≤ n) : ∃ x, bM l x = true := by
  have h1 := dC hv _ ((yO hl).2 ⟨0, by omega, rfl⟩)
  unfold dW at h1
  exact ⟨List.getD l (0 * 2) 0, k7x hl (k := 0) (by omega) ⟨Int.le_refl _, h1.2.1⟩⟩
/-! a box with the dimensions of another one -/
def zK (d k k2 : Int) : Int := if qH d 1 = 0 then k else k2
def zL (d b : Int) (r r2 : List Int) : List Int := if qH d b = 0 then r else r2
def zN (d b : Int) (n n2 : Nat) : Nat := if qH d b = 0 then n else n2
def zM (d b : Int) (m m2 : List (List Int)) : List (List Int) := if qH d b = 0 then m else m2
/-! what is shared -/
theorem u3k {k : Int} (h : KG k) : ¬ qH k k = 0 := by
  obtain ⟨n, hn, _, _, rfl⟩ := h.nat2
  rw [k1q hn hn, Nat.and_self]
  have := h.1; omega
def shP (xs ys : List Bx) (i j : Nat) : Prop × Prop × Prop × Prop := (¬ qH (kT xs i) (kT ys j) = 0, 1 ≤ qT (kB (qE xs i) (k9 xs i)) (kB (qE ys j) (k9 ys j)), 1 ≤ List.length (u5 (kW xs i) (kW ys j) (List.length (kW xs i))), 1 ≤ qT (kB (qD xs i) (k8 xs i)) (kB (qD ys j) (k8 ys j)))
theorem BsF.at {xs : List Bx} (h : BsF xs) {i : Nat} (hi : i < xs.length) : k9 xs i ≤ 5 ∧ k8 xs i ≤ 5 := h _ (uP hi)
theorem u9a {d k k2 : Int} (h : qH d 1 = 0) : zK d k k2 = k := if_pos h
theorem u99 {d k k2 : Int} (h : ¬ qH d 1 = 0) : zK d k k2 = k2 := if_neg h
theorem u15 {d b : Int} {r r2 : List Int} (h : qH d b = 0) : zL d b r r2 = r := if_pos h
theorem u14 {d b : Int} {r r2 : List Int} (h : ¬ qH d b = 0) : zL d b r r2 = r2 := if_neg h
theorem u13 {d b : Int} {n n2 : Nat} (h : qH d b = 0) : zN d b n n2 = n := if_pos h
theorem u12 {d b : Int} {n n2 : Nat} (h : ¬ qH d b = 0) : zN d b n n2 = n2 := if_neg h
theorem u98 {d b : Int} {m m2 : List (List Int)} (h : qH d b = 0) : zM d b m m2 = m := if_pos h
theorem u97 {d b : Int} {m m2 : List (List Int)} (h : ¬ qH d b = 0) : zM d b m m2 = m2 := if_neg h
theorem k61 {xs : List Bx} (h : xs.length = 1) (hv : c8 xs = true) : bE xs = [kD (kT xs 0) (qE xs 0) (k9 xs 0) (kW xs 0) (qD xs 0) (k8 xs 0)] ∧ jO xs = 0 := by
  obtain ⟨r1, r2⟩ := k64 hv
  refine ⟨?_, r2⟩
  rw [r1, h]
  show (if goB xs 0 = true then [] else [bxP xs 0]) = _
  rw [if_neg (by rw [u2a fun j hj => k80 (show j = 0 by omega)]; decide)]; rfl
end Go.Proofs.YtbicifcgghmhaaaGreat
