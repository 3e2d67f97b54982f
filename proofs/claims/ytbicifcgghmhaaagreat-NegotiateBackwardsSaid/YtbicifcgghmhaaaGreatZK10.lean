/- What the laws want of intersections. No statement is proved here. -/
import Derived.Test.YtbicifcgghmhaaaGreatZJ10
namespace Go.Proofs.YtbicifcgghmhaaaGreat
open Go.ChangeShapes Go.WideShapes Go.ChangeAt Go.RowKit
open Nat renaming le_refl → kb9, pow_le_pow_right → kl1
set_option linter.unusedVariables false
set_option linter.unusedSimpArgs false
section
variable {xs bs : List Bx} (h : BsV xs) (h2 : BsV bs) (f : BsF xs) (f2 : BsF bs) (hn : xs.length ≤ 5 ∧ bs.length ≤ 5)
include h h2 f f2 hn
end
/-! the list of one choice -/
def zO (k r : Int) (m : List Int) (z : Int) : Bx := kE (IntKind.i64.wrap (1 * ((2 ^ k.toNat : Nat) : Int))) [r, r] 1 [m] [z, z] 1
theorem u5y {k : Int} (h : 1 ≤ k ∧ k ≤ 7) : IntKind.i64.wrap (1 * ((2 ^ k.toNat : Nat) : Int)) = ((2 ^ k.toNat : Nat) : Int) := by
  obtain ⟨n, rfl⟩ : ∃ n : Nat, k = (n : Int) := ⟨k.toNat, by omega⟩
  rw [Int.toNat_natCast, Int.one_mul]
  have h1 : 2 ^ n ≤ 2 ^ 7 := kl1 (by decide) (by omega)
  exact k4b (by omega)
theorem k4u {a x : Int} (h : eB [a, a] 1 = true) : aW (kB [a, a] 1) x = true ↔ x = a := by
  rw [(nI h).1, yZ]
  show bP [(a, a)] x ↔ x = a
  rw [qO]
  constructor
  · rintro (h | h)
    · simp only at h; omega
    · exact absurd h (bO x)
  · rintro rfl; exact .inl ⟨Int.le_refl _, Int.le_refl _⟩
theorem v3f (k r : Int) (m : List Int) (z : Int) (hm : m.length ≤ 1000000) : zA (zO k r m z) := ⟨rfl, rfl, (by decide : 1 ≤ 1000000), (by decide : 1 ≤ 1000000), (by decide : 1 ≤ 1000000), fun l hl => by rw [List.mem_singleton.1 hl]; exact hm⟩
theorem v3g {k r : Int} {m : List Int} {z : Int} (hm : m.length ≤ 1000000) : BsV (qM k r m z) ∧ BsF (qM k r m z) := by
  unfold qM; split
  · rename_i hk
    unfold kK; split
    · rename_i hv
      have h3 := (of_decide_eq_true hv).2 0 (show 0 < 1 by decide)
      refine ⟨fun b hb => ?_, fun b hb => ?_⟩
      · have hb : b ∈ [zO k r m z] := hb
        rw [List.mem_singleton.1 hb]
        refine ⟨v3f k r m z hm, ?_, h3⟩
        show KG (IntKind.i64.wrap _)
        rw [u5y hk]; exact KG.one (by omega) (by omega)
      · have hb : b ∈ [zO k r m z] := hb
        rw [List.mem_singleton.1 hb]; exact ⟨(by decide : 1 ≤ 5), (by decide : 1 ≤ 5)⟩
    · exact ⟨BsV.nil, BsF.nil⟩
  · exact ⟨BsV.nil, BsF.nil⟩
theorem u3a {k r : Int} {m : List Int} {z : Int} (hk : 1 ≤ k ∧ k ≤ 7) (hv : bY (siX k r m z) = true) (c : Co) : HC (zO k r m z) c ↔ c = ⟨k, r, m, z⟩ := by
  have h3 : eY (zO k r m z).k (zO k r m z).r (zO k r m z).rn (zO k r m z).m (zO k r m z).s (zO k r m z).sn = true := (of_decide_eq_true hv).2 0 (show 0 < 1 by decide)
  obtain ⟨_, p2, _, p4⟩ := vN h3
  have q2 : eB [r, r] 1 = true := (dD p2).1
  have q4 : eB [z, z] 1 = true := (dD p4).1
  have e2 : kB [r, r] 1 = [r, r] := (nI q2).1
  have e4 : kB [z, z] 1 = [z, z] := (nI q4).1
  have s2 := k4u (x := c.r) q2
  have s4 := k4u (x := c.s) q4
  rw [e2] at s2; rw [e4] at s4
  have hb : ∀ q, 1 ≤ q → q ≤ 7 → (gE (zO k r m z).k q = true ↔ (q : Int) = k) := fun q q1 q2 => by
    show gE (IntKind.i64.wrap _) q = true ↔ _
    rw [u5y hk]
    have h1 : 2 ^ k.toNat ≤ 2 ^ 7 := kl1 (by decide) (by omega)
    rw [rS (by omega) q1 q2, Nat.testBit_two_pow]
    rw [decide_eq_true_iff]; omega
  unfold HC
  show (1 ≤ c.k ∧ c.k ≤ 7 ∧ gE (zO k r m z).k c.k.toNat = true) ∧ aW [r, r] c.r = true ∧ c.m ∈ [m] ∧ aW [z, z] c.s = true ↔ _
  rw [s2, s4, List.mem_singleton]
  cases c with
  | mk ck cr cm cs =>
    simp only [Co.mk.injEq]
    constructor
    · rintro ⟨⟨a1, a2, a3⟩, b, d, e⟩
      have := (hb _ (by omega) (by omega)).1 a3
      exact ⟨by omega, b, d, e⟩
    · rintro ⟨rfl, b, d, e⟩
      exact ⟨⟨hk.1, hk.2, (hb _ (by omega) (by omega)).2 (by omega)⟩, b, d, e⟩
theorem u98 {b : Bx} (h : BxV b) {k r : Int} {m : List Int} {z : Int} (hc : HC b ⟨k, r, m, z⟩) : (1 ≤ k ∧ k ≤ 7) ∧ bY (siX k r m z) = true := by
  obtain ⟨⟨k1, k2, _⟩, h2, h3, h4⟩ := hc
  obtain ⟨_, p2, p3, p4⟩ := vN h.2.2
  have hr : 1000 ≤ r ∧ r ≤ 768000 := l4 h.1.1 p2 h2
  have hz : 1 ≤ z ∧ z ≤ 65536 := l4 h.1.2.1 p4 h4
  have hm := (k4g p3).1 m h3
  have one : ∀ a : Int, 0 ≤ a → a ≤ 2147483647 → eB [a, a] 1 = true := fun a a1 a2 => k4h (by decide) fun j hj => by
    obtain rfl : j = 0 := by omega
    exact decide_eq_true ⟨a1, Int.le_refl _, a2, .inl rfl⟩
  refine ⟨⟨k1, k2⟩, u5r (by show 1 ≤ 64; decide) fun i hi => ?_⟩
  have hi : i < 1 := hi
  obtain rfl : i = 0 := by omega
  show eY (zO k r m z).k [r, r] 1 [m] [z, z] 1 = true
  refine k3u ?_ (k4c (one r (by omega) (by omega)) ⟨kb9 _, hr.1, hr.2⟩) (k4e ⟨fun x hx => by rw [List.mem_singleton.1 hx]; exact hm, List.pairwise_singleton ..⟩ (kb9 _) (by show 1 ≤ 16; decide)) (k4c (one z (by omega) (by omega)) ⟨kb9 _, hz.1, hz.2⟩)
  show ¬ IntKind.i64.wrap (1 * ((2 ^ k.toNat : Nat) : Int)) = 0 ∧ iP (IntKind.i64.wrap (1 * ((2 ^ k.toNat : Nat) : Int))) = 0
  rw [u5y ⟨k1, k2⟩]
  exact (KG.one (by omega) (by omega)).ok.1
theorem u99 {k r : Int} {m : List Int} {z : Int} (c : Co) : LCo (qM k r m z) c → c = ⟨k, r, m, z⟩ := by
  unfold qM; split
  · rename_i hk
    unfold kK; split
    · rename_i hv
      rintro ⟨b, hb, hc⟩
      have hb : b ∈ [zO k r m z] := hb
      rw [List.mem_singleton.1 hb] at hc
      exact (u3a hk hv c).1 hc
    · rintro ⟨b, hb, _⟩; cases hb
  · rintro ⟨b, hb, _⟩; cases hb
theorem u9a {k r : Int} {m : List Int} {z : Int} (hk : 1 ≤ k ∧ k ≤ 7) (hv : bY (siX k r m z) = true) : LCo (qM k r m z) ⟨k, r, m, z⟩ := by
  unfold qM; rw [if_pos hk, k2e hv]
  exact ⟨zO k r m z, List.mem_singleton.2 rfl, (u3a hk hv _).2 rfl⟩
section
variable {xs : List Bx} (h : BsV xs) (f : BsF xs) (hn : xs.length ≤ 5) {k r : Int} {m : List Int} {z : Int} (hm : m.length ≤ 1000000)
include h f hn hm
end
end Go.Proofs.YtbicifcgghmhaaaGreat
