/- What the laws want of intersections. No statement is proved here. -/
import Derived.Test.YtbicifcgghmhaaaGreatZJ10
namespace Go.Proofs.YtbicifcgghmhaaaGreat
open Go.ChangeShapes Go.WideShapes Go.ChangeAt Go.RowKit
open Nat renaming le_refl → kb8, pow_le_pow_right → kl3
set_option linter.unusedVariables false
set_option linter.unusedSimpArgs false
section
variable {xs bs : List Bx} (h : BsV xs) (h2 : BsV bs) (f : BsF xs) (f2 : BsF bs) (hn : xs.length ≤ 5 ∧ bs.length ≤ 5)
include h h2 f f2 hn
end
/-! the list of one choice -/
def z7 (k r : Int) (m : List Int) (z : Int) : Bx := kE (IntKind.i64.wrap (1 * ((2 ^ k.toNat : Nat) : Int))) [r, r] 1 [m] [z, z] 1
theorem u72 {k : Int} (h : 1 ≤ k ∧ k ≤ 7) : IntKind.i64.wrap (1 * ((2 ^ k.toNat : Nat) : Int)) = ((2 ^ k.toNat : Nat) : Int) := by
  obtain ⟨n, rfl⟩ : ∃ n : Nat, k = (n : Int) := ⟨k.toNat, by omega⟩
  rw [Int.toNat_natCast, Int.one_mul]
  have h1 : 2 ^ n ≤ 2 ^ 7 := kl3 (by decide) (by omega)
  exact k4y (by omega)
theorem k5g {a x : Int} (h : eH [a, a] 1 = true) : bA (kB [a, a] 1) x = true ↔ x = a := by
  rw [(n7 h).1, yZ]
  show bZ [(a, a)] x ↔ x = a
  rw [qP]
  constructor
  · rintro (h | h)
    · simp only at h; omega
    · exact absurd h (bY x)
  · rintro rfl; exact .inl ⟨Int.le_refl _, Int.le_refl _⟩
theorem v4e (k r : Int) (m : List Int) (z : Int) (hm : m.length ≤ 1000000) : zS (z7 k r m z) := ⟨rfl, rfl, (by decide : 1 ≤ 1000000), (by decide : 1 ≤ 1000000), (by decide : 1 ≤ 1000000), fun l hl => by rw [List.mem_singleton.1 hl]; exact hm⟩
theorem v4f {k r : Int} {m : List Int} {z : Int} (hm : m.length ≤ 1000000) : BsV (qL k r m z) ∧ BsF (qL k r m z) := by
  unfold qL; split
  · rename_i hk
    unfold kK; split
    · rename_i hv
      have h3 := (of_decide_eq_true hv).2 0 (show 0 < 1 by decide)
      refine ⟨fun b hb => ?_, fun b hb => ?_⟩
      · have hb : b ∈ [z7 k r m z] := hb
        rw [List.mem_singleton.1 hb]
        refine ⟨v4e k r m z hm, ?_, h3⟩
        show KG (IntKind.i64.wrap _)
        rw [u72 hk]; exact KG.one (by omega) (by omega)
      · have hb : b ∈ [z7 k r m z] := hb
        rw [List.mem_singleton.1 hb]; exact ⟨(by decide : 1 ≤ 5), (by decide : 1 ≤ 5)⟩
    · exact ⟨BsV.nil, BsF.nil⟩
  · exact ⟨BsV.nil, BsF.nil⟩
theorem u4c {k r : Int} {m : List Int} {z : Int} (hk : 1 ≤ k ∧ k ≤ 7) (hv : cF (siX k r m z) = true) (c : Co) : HC (z7 k r m z) c ↔ c = ⟨k, r, m, z⟩ := by
  have h3 : fF (z7 k r m z).k (z7 k r m z).r (z7 k r m z).rn (z7 k r m z).m (z7 k r m z).s (z7 k r m z).sn = true := (of_decide_eq_true hv).2 0 (show 0 < 1 by decide)
  obtain ⟨_, p2, _, p4⟩ := vQ h3
  have q2 : eH [r, r] 1 = true := (dG p2).1
  have q4 : eH [z, z] 1 = true := (dG p4).1
  have e2 : kB [r, r] 1 = [r, r] := (n7 q2).1
  have e4 : kB [z, z] 1 = [z, z] := (n7 q4).1
  have s2 := k5g (x := c.r) q2
  have s4 := k5g (x := c.s) q4
  rw [e2] at s2; rw [e4] at s4
  have hb : ∀ q, 1 ≤ q → q ≤ 7 → (gQ (z7 k r m z).k q = true ↔ (q : Int) = k) := fun q q1 q2 => by
    show gQ (IntKind.i64.wrap _) q = true ↔ _
    rw [u72 hk]
    have h1 : 2 ^ k.toNat ≤ 2 ^ 7 := kl3 (by decide) (by omega)
    rw [sI (by omega) q1 q2, Nat.testBit_two_pow]
    rw [decide_eq_true_iff]; omega
  unfold HC
  show (1 ≤ c.k ∧ c.k ≤ 7 ∧ gQ (z7 k r m z).k c.k.toNat = true) ∧ bA [r, r] c.r = true ∧ c.m ∈ [m] ∧ bA [z, z] c.s = true ↔ _
  rw [s2, s4, List.mem_singleton]
  cases c with
  | mk ck cr cm cs =>
    simp only [Co.mk.injEq]
    constructor
    · rintro ⟨⟨a1, a2, a3⟩, b, d, e⟩
      have := (hb _ (by omega) (by omega)).1 a3
      exact ⟨by omega, b, d, e⟩
    · rintro ⟨rfl, b, d, e⟩
      exact ⟨⟨hk.1, hk.2, (hb _ (by omega) (by omega)).2 (by omega)⟩, b, d, e⟩
theorem v0a {b : Bx} (h : BxV b) {k r : Int} {m : List Int} {z : Int} (hc : HC b ⟨k, r, m, z⟩) : (1 ≤ k ∧ k ≤ 7) ∧ cF (siX k r m z) = true := by
  obtain ⟨⟨k1, k2, _⟩, h2, h3, h4⟩ := hc
  obtain ⟨_, p2, p3, p4⟩ := vQ h.2.2
  have hr : 1000 ≤ r ∧ r ≤ 768000 := mK h.1.1 p2 h2
  have hz : 1 ≤ z ∧ z ≤ 65536 := mK h.1.2.1 p4 h4
  have hm := (k53 p3).1 m h3
  have one : ∀ a : Int, 0 ≤ a → a ≤ 2147483647 → eH [a, a] 1 = true := fun a a1 a2 => k54 (by decide) fun j hj => by
    obtain rfl : j = 0 := by omega
    exact decide_eq_true ⟨a1, Int.le_refl _, a2, .inl rfl⟩
  refine ⟨⟨k1, k2⟩, u6u (by show 1 ≤ 64; decide) fun i hi => ?_⟩
  have hi : i < 1 := hi
  obtain rfl : i = 0 := by omega
  show fF (z7 k r m z).k [r, r] 1 [m] [z, z] 1 = true
  refine k4g ?_ (k4z (one r (by omega) (by omega)) ⟨kb8 _, hr.1, hr.2⟩) (k51 ⟨fun x hx => by rw [List.mem_singleton.1 hx]; exact hm, List.pairwise_singleton ..⟩ (kb8 _) (by show 1 ≤ 16; decide)) (k4z (one z (by omega) (by omega)) ⟨kb8 _, hz.1, hz.2⟩)
  show ¬ IntKind.i64.wrap (1 * ((2 ^ k.toNat : Nat) : Int)) = 0 ∧ jE (IntKind.i64.wrap (1 * ((2 ^ k.toNat : Nat) : Int))) = 0
  rw [u72 ⟨k1, k2⟩]
  exact (KG.one (by omega) (by omega)).ok.1
theorem v0b {k r : Int} {m : List Int} {z : Int} (c : Co) : LCo (qL k r m z) c → c = ⟨k, r, m, z⟩ := by
  unfold qL; split
  · rename_i hk
    unfold kK; split
    · rename_i hv
      rintro ⟨b, hb, hc⟩
      have hb : b ∈ [z7 k r m z] := hb
      rw [List.mem_singleton.1 hb] at hc
      exact (u4c hk hv c).1 hc
    · rintro ⟨b, hb, _⟩; cases hb
  · rintro ⟨b, hb, _⟩; cases hb
theorem v0c {k r : Int} {m : List Int} {z : Int} (hk : 1 ≤ k ∧ k ≤ 7) (hv : cF (siX k r m z) = true) : LCo (qL k r m z) ⟨k, r, m, z⟩ := by
  unfold qL; rw [if_pos hk, k30 hv]
  exact ⟨z7 k r m z, List.mem_singleton.2 rfl, (u4c hk hv _).2 rfl⟩
section
variable {xs : List Bx} (h : BsV xs) (f : BsF xs) (hn : xs.length ≤ 5) {k r : Int} {m : List Int} {z : Int} (hm : m.length ≤ 1000000)
include h f hn hm
end
end Go.Proofs.YtbicifcgghmhaaaGreat
