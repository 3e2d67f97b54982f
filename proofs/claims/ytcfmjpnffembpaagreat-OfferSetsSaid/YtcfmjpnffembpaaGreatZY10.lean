/- Merged texts. -/
import Derived.Test.YtcfmjpnffembpaaGreatZL10M
import Derived.Test.YtcfmjpnffembpaaGreatZL10G
import Derived.Test.YtcfmjpnffembpaaGreatZL10R
namespace Go.Proofs.YtcfmjpnffembpaaGreat
open Go.ChangeShapes Go.WideShapes Go.ChangeAt Go.RowKit
set_option linter.unusedVariables false
set_option linter.unusedSimpArgs false
def BxG (b : Bx) : Prop := BxW b ∧ 1 ≤ kK b.r b.rn ∧ 1 ≤ kK b.s b.sn ∧ 1 ≤ List.length b.m ∧ ∃ q, 1 ≤ q ∧ q ≤ 7 ∧ xC b.k q = true
def BsG (bs : List Bx) : Prop := ∀ b ∈ bs, BxG b
theorem lZ {bs : List Bx} {i : Nat} (h : i < bs.length) : gL bs i ∈ bs := by
  unfold gL; rw [List.getD_eq_getElem?_getD, List.getElem?_eq_getElem h]; exact List.getElem_mem _
end Go.Proofs.YtcfmjpnffembpaaGreat
namespace Go.Proofs.YtcfmjpnffembpaaGreat
open Go.ChangeShapes Go.WideShapes Go.ChangeAt Go.RowKit
set_option linter.unusedVariables false
set_option linter.unusedSimpArgs false
def KG (k : Int) : Prop := 2 ≤ k ∧ k ≤ 254 ∧ k % 2 = 0
def orC : Bool := (List.range 127).all fun n => (List.range 7).all fun q => decide (2 ≤ orI (2 * (n : Int) + 2) ((2 ^ (q + 1) : Nat) : Int) ∧ orI (2 * (n : Int) + 2) ((2 ^ (q + 1) : Nat) : Int) ≤ 254 ∧ orI (2 * (n : Int) + 2) ((2 ^ (q + 1) : Nat) : Int) % 2 = 0)
theorem u4j : orC = true := by kernel_rfl
theorem KG.or {k : Int} (h : KG k) {q : Nat} (h1 : 1 ≤ q) (h2 : q ≤ 7) : KG (orI k ((2 ^ q : Nat) : Int)) := by
  unfold KG at h
  obtain ⟨n, rfl⟩ : ∃ n : Nat, k = 2 * (n : Int) + 2 := ⟨((k - 2) / 2).toNat, by omega⟩
  obtain ⟨r, rfl⟩ : ∃ r, q = r + 1 := ⟨q - 1, by omega⟩
  have h9 := List.all_eq_true.1 (List.all_eq_true.1 u4j n (List.mem_range.2 (by omega))) r (List.mem_range.2 (by omega))
  have h8 := of_decide_eq_true h9
  exact h8
theorem KG.one {q : Nat} (h1 : 1 ≤ q) (h2 : q ≤ 7) : KG ((2 ^ q : Nat) : Int) := by
  match q, h1, h2 with
  | 1, _, _ => exact ⟨by decide, by decide, by decide⟩
  | 2, _, _ => exact ⟨by decide, by decide, by decide⟩
  | 3, _, _ => exact ⟨by decide, by decide, by decide⟩
  | 4, _, _ => exact ⟨by decide, by decide, by decide⟩
  | 5, _, _ => exact ⟨by decide, by decide, by decide⟩
  | 6, _, _ => exact ⟨by decide, by decide, by decide⟩
  | 7, _, _ => exact ⟨by decide, by decide, by decide⟩
def kgC : Bool := (List.range 127).all fun n => decide (eH (2 * (n : Int) + 2) = 0) && (List.range 7).any fun q => decide (cG ((2 * (n : Int) + 2) / ((2 ^ (q + 1) : Nat) : Int)) = 1)
theorem u5a : kgC = true := by kernel_rfl
theorem KG.ok {k : Int} (h : KG k) : (¬ k = 0 ∧ eH k = 0) ∧ ∃ q, 1 ≤ q ∧ q ≤ 7 ∧ xC k q = true := by
  unfold KG at h
  obtain ⟨n, rfl⟩ : ∃ n : Nat, k = 2 * (n : Int) + 2 := ⟨((k - 2) / 2).toNat, by omega⟩
  have h1 := List.all_eq_true.1 u5a n (List.mem_range.2 (by omega))
  rw [Bool.and_eq_true, decide_eq_true_iff] at h1
  obtain ⟨q, hq, h2⟩ := List.any_eq_true.1 h1.2
  have hq := List.mem_range.1 hq
  exact ⟨⟨by omega, h1.1⟩, q + 1, by omega, by omega, decide_eq_true ⟨by omega, by omega, of_decide_eq_true h2⟩⟩
def MsV (ms : List (List Int)) : Prop := (∀ m ∈ ms, lJ m m.length = true) ∧ ms.Pairwise fun a b => a ≠ b
theorem u3k {ms : List (List Int)} (h : MsV ms) (h1 : 1 ≤ ms.length) (h2 : ms.length ≤ 16) : nQ ms = true := by
  refine u1b h1 h2 fun i hi => k31 ?_ ?_
  · rw [show List.getD ms i [] = ms[i] by rw [List.getD_eq_getElem?_getD, List.getElem?_eq_getElem hi]; rfl]
    exact h.1 _ (List.getElem_mem hi)
  · rw [show List.getD ms i [] = ms[i] by rw [List.getD_eq_getElem?_getD, List.getElem?_eq_getElem hi]; rfl]
    refine decide_eq_false fun hm => ?_
    obtain ⟨j, hj, e⟩ := List.mem_iff_getElem.1 hm
    rw [List.length_take] at hj
    rw [List.getElem_take] at e
    exact List.pairwise_iff_getElem.1 h.2 j i (by omega) hi (by omega) e
theorem g9 {l : List Int} {n : Nat} {lo hi : Int} (h : dR l n lo hi = true) : eI l n = true ∧ kB l n = l ∧ kK l n = n ∧ 1 ≤ n := by
  unfold dR at h
  rw [Bool.and_eq_true, decide_eq_true_iff] at h
  exact ⟨h.1, (tH h.1).1, (tH h.1).2, h.2.1⟩
theorem k9q {ms : List (List Int)} (h : nQ ms = true) : 1 ≤ ms.length := (of_decide_eq_true h).1
attribute [local irreducible] bB y8 bE fP vY kA kD yH pS d7 nX xB knK dR nQ
def BxV (b : Bx) : Prop := BxW b ∧ KG b.k ∧ dK b.k b.r b.rn b.m b.s b.sn = true
def BsV (bs : List Bx) : Prop := ∀ b ∈ bs, BxV b
theorem m8 {k : Int} {r : List Int} {rn : Nat} {m : List (List Int)} {s : List Int} {sn : Nat} (h : dK k r rn m s sn = true) : (¬ k = 0 ∧ eH k = 0) ∧ dR r rn 1000 768000 = true ∧ nQ m = true ∧ dR s sn 1 65536 = true := by
  unfold dK at h
  rw [Bool.and_eq_true, Bool.and_eq_true, Bool.and_eq_true, decide_eq_true_iff] at h
  exact h
theorem BxV.g {b : Bx} (h : BxV b) : BxG b := by
  obtain ⟨h1, h2, h3⟩ := h
  obtain ⟨_, p2, p3, p4⟩ := m8 h3
  obtain ⟨_, _, r3, r4⟩ := g9 p2
  obtain ⟨_, _, s3, s4⟩ := g9 p4
  exact ⟨h1, by omega, by omega, k9q p3, h2.ok.2⟩
theorem BsV.g {bs : List Bx} (h : BsV bs) : BsG bs := fun b hb => (h b hb).g
theorem BsV.w {bs : List Bx} (h : BsV bs) : BsW bs := fun b hb => (h b hb).1
theorem BsV.vb {bs : List Bx} (h : BsV bs) (hn : bs.length ≤ 64) : aJ bs = true := u1d hn fun i hi => (h _ (lZ hi)).2.2
theorem BsV.eq {bs : List Bx} (h : BsV bs) (hn : bs.length ≤ 64) : kH bs = bs := k19 (h.vb hn)
theorem BsV.nil : BsV [] := fun b hb => by cases hb
theorem BsV.app {a b : List Bx} (h : BsV a) (h2 : BsV b) : BsV (a ++ b) := fun m hm => (List.mem_append.1 hm).elim (h m) (h2 m)
theorem BsV.one {b : Bx} (h : BxV b) : BsV [b] := fun m hm => by rw [List.mem_singleton.1 hm]; exact h
theorem BsV.box {xs : List Bx} (h : BsV xs) {i : Nat} (hi : i < xs.length) : BxV (uO (k9 xs i) (qF xs i) (qB xs i) (kY xs i) (qG xs i) (qC xs i)) := h _ (lZ hi)
end Go.Proofs.YtcfmjpnffembpaaGreat
namespace Go.Proofs.YtcfmjpnffembpaaGreat
open Go.ChangeShapes Go.WideShapes Go.ChangeAt Go.RowKit
set_option linter.unusedVariables false
set_option linter.unusedSimpArgs false
theorem u1m {a b : List (List Int)} : sgB a b = false ↔ ∀ m ∈ a, m ∈ b := by
  unfold sgB
  rw [decide_eq_false_iff_not]
  constructor
  · intro h m hm
    by_cases e : m ∈ b
    · exact e
    · exact absurd ⟨m, hm, e⟩ h
  · rintro h ⟨m, hm, e⟩
    exact e (h m hm)
def NI (a b : Bx) : Prop := (∀ q, 1 ≤ q → q ≤ 7 → xC a.k q = true → xC b.k q = true) ∧ (∀ x, gI a.r x = true → gI b.r x = true) ∧ (∀ m ∈ a.m, m ∈ b.m) ∧ (∀ x, gI a.s x = true → gI b.s x = true)
theorem NI.refl (a : Bx) : NI a a := ⟨fun _ _ _ h => h, fun _ h => h, fun _ h => h, fun _ h => h⟩
theorem NI.trans {a b c : Bx} (h : NI a b) (h2 : NI b c) : NI a c := ⟨fun q h3 h4 h5 => h2.1 q h3 h4 (h.1 q h3 h4 h5), fun x h3 => h2.2.1 x (h.2.1 x h3), fun m h3 => h2.2.2.1 m (h.2.2.1 m h3), fun x h3 => h2.2.2.2 x (h.2.2.2 x h3)⟩
def HC (b : Bx) (c : Co) : Prop := (1 ≤ c.k ∧ c.k ≤ 7 ∧ xC b.k c.k.toNat = true) ∧ gI b.r c.r = true ∧ c.m ∈ b.m ∧ gI b.s c.s = true
theorem HC.mono {a b : Bx} (h : NI a b) {c : Co} (hc : HC a c) : HC b c := ⟨⟨hc.1.1, hc.1.2.1, h.1 _ (by have := hc.1.1; omega) (by have := hc.1.2.1; omega) hc.1.2.2⟩, h.2.1 _ hc.2.1, h.2.2.1 _ hc.2.2.1, h.2.2.2 _ hc.2.2.2⟩
def LCo (xs : List Bx) (c : Co) : Prop := ∃ b ∈ xs, HC b c
theorem LCo.app {xs ys : List Bx} {c : Co} : LCo (xs ++ ys) c ↔ LCo xs c ∨ LCo ys c := by
  constructor
  · rintro ⟨b, hb, h⟩; exact (List.mem_append.1 hb).imp (fun h1 => ⟨b, h1, h⟩) fun h1 => ⟨b, h1, h⟩
  · rintro (⟨b, hb, h⟩ | ⟨b, hb, h⟩)
    · exact ⟨b, List.mem_append_left _ hb, h⟩
    · exact ⟨b, List.mem_append_right _ hb, h⟩
/-! boxes that are reduced away -/
def GO (xs : List Bx) (i j : Nat) : Prop := j ≠ i ∧ NI (gL xs i) (gL xs j) ∧ (j < i ∨ ¬ NI (gL xs j) (gL xs i))
theorem GO.trans {xs : List Bx} {i j k : Nat} (h : GO xs i j) (h2 : GO xs j k) : GO xs i k := by
  obtain ⟨a1, a2, a3⟩ := h
  obtain ⟨b1, b2, b3⟩ := h2
  have key : NI (gL xs k) (gL xs i) → k < i := fun h => by
    have c1 : k < j := b3.elim id fun h9 => absurd (h.trans a2) h9
    have c2 : j < i := a3.elim id fun h9 => absurd (b2.trans h) h9
    omega
  refine ⟨fun e => ?_, a2.trans b2, ?_⟩
  · have := key (by rw [e]; exact NI.refl _); omega
  · by_cases e : NI (gL xs k) (gL xs i)
    · exact .inl (key e)
    · exact .inr e
end Go.Proofs.YtcfmjpnffembpaaGreat
