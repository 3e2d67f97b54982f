/- One box against one box. No statement is proved here. -/
import Derived.Test.YtbicifcgghmhaaaGreatZK10
namespace Go.Proofs.YtbicifcgghmhaaaGreat
open Go.ChangeShapes Go.WideShapes Go.ChangeAt Go.RowKit
set_option linter.unusedVariables false
set_option linter.unusedSimpArgs false
def smN (k : Int) (c n m : Nat) : Nat := if ¬ k = 0 ∧ 1 ≤ c ∧ 1 ≤ n ∧ 1 ≤ m then 1 else 0
theorem k70 {a b : List Int} (h : gN a b ≤ 64) : uB a b = alS a b ∧ qL a b = gN a b := by
  obtain ⟨h1, h2⟩ := u3v (a := a) (b := b) rfl
  have h3 := u81 a b
  rw [Nat.min_eq_left h] at h1 h2
  exact ⟨by rw [h1]; exact List.take_of_length_le (by omega), h2⟩
theorem k6g {l : List Int} {n : Nat} (hl : l.length = n * 2) (hv : bN (qN l)) (h : 1 ≤ n) : ∃ x, aW l x = true := by
  have h1 := cS hv _ ((u6 hl).2 ⟨0, by omega, rfl⟩)
  unfold dA at h1
  exact ⟨List.getD l (0 * 2) 0, u1i hl (k := 0) (by omega) ⟨Int.le_refl _, h1.2.1⟩⟩
/-! a box with the dimensions of another one -/
def zK (d k k2 : Int) : Int := if qG d 1 = 0 then k else k2
def zL (d b : Int) (r r2 : List Int) : List Int := if qG d b = 0 then r else r2
def zN (d b : Int) (n n2 : Nat) : Nat := if qG d b = 0 then n else n2
def zM (d b : Int) (m m2 : List (List Int)) : List (List Int) := if qG d b = 0 then m else m2
/-! what is shared -/
theorem u2s {k : Int} (h : KG k) : ¬ qG k k = 0 := by
  obtain ⟨n, hn, _, _, rfl⟩ := h.nat2
  rw [k0o hn hn, Nat.and_self]
  have := h.1; omega
def shP (xs ys : List Bx) (i j : Nat) : Prop × Prop × Prop × Prop := (¬ qG (kR xs i) (kR ys j) = 0, 1 ≤ qL (kB (k8 xs i) (kU xs i)) (kB (k8 ys j) (kU ys j)), 1 ≤ List.length (uT (kS xs i) (kS ys j) (List.length (kS xs i))), 1 ≤ qL (kB (kZ xs i) (kT xs i)) (kB (kZ ys j) (kT ys j)))
theorem BsF.at {xs : List Bx} (h : BsF xs) {i : Nat} (hi : i < xs.length) : kU xs i ≤ 5 ∧ kT xs i ≤ 5 := h _ (qR hi)
theorem v30 {d k k2 : Int} (h : qG d 1 = 0) : zK d k k2 = k := if_pos h
theorem v2z {d k k2 : Int} (h : ¬ qG d 1 = 0) : zK d k k2 = k2 := if_neg h
theorem u8n {d b : Int} {r r2 : List Int} (h : qG d b = 0) : zL d b r r2 = r := if_pos h
theorem u8m {d b : Int} {r r2 : List Int} (h : ¬ qG d b = 0) : zL d b r r2 = r2 := if_neg h
theorem u8l {d b : Int} {n n2 : Nat} (h : qG d b = 0) : zN d b n n2 = n := if_pos h
theorem u8k {d b : Int} {n n2 : Nat} (h : ¬ qG d b = 0) : zN d b n n2 = n2 := if_neg h
theorem v2y {d b : Int} {m m2 : List (List Int)} (h : qG d b = 0) : zM d b m m2 = m := if_pos h
theorem v2x {d b : Int} {m m2 : List (List Int)} (h : ¬ qG d b = 0) : zM d b m m2 = m2 := if_neg h
theorem k55 {xs : List Bx} (h : xs.length = 1) (hv : bY xs = true) : aZ xs = [kE (kR xs 0) (k8 xs 0) (kU xs 0) (kS xs 0) (kZ xs 0) (kT xs 0)] ∧ iM xs = 0 := by
  obtain ⟨r1, r2⟩ := k58 hv
  refine ⟨?_, r2⟩
  rw [r1, h]
  show (if goB xs 0 = true then [] else [bxP xs 0]) = _
  rw [if_neg (by rw [v19 fun j hj => u70 (show j = 0 by omega)]; decide)]; rfl
end Go.Proofs.YtbicifcgghmhaaaGreat
