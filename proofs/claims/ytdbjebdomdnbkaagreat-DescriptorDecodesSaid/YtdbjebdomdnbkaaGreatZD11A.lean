/- Merged texts. -/
import Derived.Test.YtdbjebdomdnbkaaGreatZL10F
import Derived.Test.YtdbjebdomdnbkaaGreatZL10M
import Derived.Test.YtdbjebdomdnbkaaGreatZLWi
namespace Go.Proofs.YtdbjebdomdnbkaaGreat
open Go.ChangeShapes Go.WideShapes Go.ChangeAt Go.RowKit
set_option linter.unusedVariables false
set_option linter.unusedSimpArgs false
attribute [local irreducible] vX yI vT dE yZ kC kA uY lY cM l6 l5
def aQ (k : Int) (r : List Int) (rn : Nat) (m : List (List Int)) (s : List Int) (sn : Nat) : Bx := ⟨k, r, rn, m, s, sn⟩
theorem p9 (xs : List Bx) (k : Int) (r : List Int) (rn : Nat) (m : List (List Int)) (c : Nat) (s : List Int) (sn : Nat) (h : m.length = c) : kX xs ++ [D.lit (.int .i64 k), D.sl (dI .i64 r) rn, D.sl (kW m) c, D.sl (dI .i64 s) sn] = kX (xs ++ [aQ k r rn m s sn]) := by
 subst h; rw [k0i]; rfl
def boX (l : List Int) : Bx := aQ (tW l) (tV l) (rU l) (iY l) (tU l) (rT l)
def yH (l : List Int) : Nat → List Int
 | 0 => l
 | i + 1 => boD (yH l i)
def bbL (l : List Int) : Nat → List Bx
 | 0 => []
 | i + 1 => bbL l i ++ [boX (yH l i)]
theorem k9b {l : List Int} (h : Byt l) : Byt (boD l) := by
 unfold boD bo5 bo4 bo3 bo2 bo1
 exact fM (kH _ (v8 (v8 (vN (kH _ (kH _ h)) _)))) _
theorem gD {l : List Int} (h : Byt l) : ∀ i, Byt (yH l i)
 | 0 => h
 | i + 1 => k9b (gD h i)
theorem k3f (l : List Int) : 1 + kC l 3 ≤ 1000000 := by
 by_cases h : l.length = 0 ∨ (3 : Int) ≤ 1
 ·have := eC h; omega
 ·have h1 : kC l 3 = (List.getD l 0 0 % 3).toNat := by unfold kC; exact if_neg h
  have := Int.emod_lt_of_pos (List.getD l 0 0) (b := 3) (by omega)
  omega
theorem u11 (l : List Int) : BxW (boX l) := by
 have h1 := lC (vX rtT (bo2 l) 5) (vT rtT (bo2 l) 5)
 have h2 := lC (vX szT (bo3 l) 4) (vT szT (bo3 l) 4)
 have h3 := xD (bo5 l) (boN l)
 have h5 := k3f (bo4 l)
 show List.length (tV l) = rU l * 2 ∧ List.length (tU l) = rT l * 2 ∧ rU l ≤ 1000000 ∧ rT l ≤ 1000000 ∧ List.length (iY l) ≤ 1000000 ∧ MsW (iY l)
 unfold tV rU tU rT iY
 refine ⟨fO _ _, fO _ _, ?_, ?_, ?_, k3m _ _⟩
 ·exact Nat.le_trans h1.2 (by omega)
 ·exact Nat.le_trans h2.2 (by omega)
 ·exact Nat.le_trans h3 h5
theorem rB (l : List Int) : ∀ i, List.length (bbL l i) = i
 | 0 => rfl
 | i + 1 => by rw [bbL, List.length_append, rB l i]; rfl
theorem k0j (l : List Int) : ∀ i, BsW (bbL l i)
 | 0 => BsW.nil
 | i + 1 => (k0j l i).app (BsW.one (u11 _))
theorem u95 {l : List Int} {i : Nat} {bs : List Bx} (h : bbL l i = bs) : bbL l (i + 1) = bs ++ [aQ (tW (yH l i)) (tV (yH l i)) (rU (yH l i)) (iY (yH l i)) (tU (yH l i)) (rT (yH l i))] := by
 subst h; rfl
theorem BsW.box {xs : List Bx} (h : BsW xs) (i : Nat) : BxW (aQ (vU xs i) (aE xs i) (yJ xs i) (qD xs i) (cH xs i) (aA xs i)) := h.get i
end Go.Proofs.YtdbjebdomdnbkaaGreat
namespace Go.Proofs.YtdbjebdomdnbkaaGreat
open Go.ChangeShapes Go.WideShapes Go.ChangeAt Go.RowKit
set_option linter.unusedVariables false
set_option linter.unusedSimpArgs false
def BxG (b : Bx) : Prop := BxW b ∧ 1 ≤ spN b.r b.rn ∧ 1 ≤ spN b.s b.sn ∧ 1 ≤ List.length b.m ∧ ∃ q, 1 ≤ q ∧ q ≤ 7 ∧ kiB b.k q = true
def BsG (bs : List Bx) : Prop := ∀ b ∈ bs, BxG b
theorem gA {bs : List Bx} {i : Nat} (h : i < bs.length) : iB bs i ∈ bs := by
  unfold iB; rw [List.getD_eq_getElem?_getD, List.getElem?_eq_getElem h]; exact List.getElem_mem _
end Go.Proofs.YtdbjebdomdnbkaaGreat
namespace Go.Proofs.YtdbjebdomdnbkaaGreat
open Go.ChangeShapes Go.WideShapes Go.ChangeAt Go.RowKit
set_option linter.unusedVariables false
set_option linter.unusedSimpArgs false
/-! chapter 10: boxes out of dice are valid -/
theorem u0n (l : List Int) (h : Byt l) : ∃ q : Nat, 1 ≤ q ∧ q ≤ 7 ∧ kbV l = ((2 ^ q : Nat) : Int) := by
  have h2 := kZ l 7 h
  refine ⟨1 + kC l 7, by omega, by omega, ?_⟩
  unfold kbV
  have h3 : kC l 7 < 7 := by omega
  generalize kC l 7 = n at *
  match n, h3 with
  | 0, _ => rfl
  | 1, _ => rfl
  | 2, _ => rfl
  | 3, _ => rfl
  | 4, _ => rfl
  | 5, _ => rfl
  | 6, _ => rfl
def KG (k : Int) : Prop := 2 ≤ k ∧ k ≤ 254 ∧ k % 2 = 0
def orC : Bool := (List.range 127).all fun n => (List.range 7).all fun q => decide (2 ≤ orI (2 * (n : Int) + 2) ((2 ^ (q + 1) : Nat) : Int) ∧ orI (2 * (n : Int) + 2) ((2 ^ (q + 1) : Nat) : Int) ≤ 254 ∧ orI (2 * (n : Int) + 2) ((2 ^ (q + 1) : Nat) : Int) % 2 = 0)
theorem u5w : orC = true := by kernel_rfl
theorem KG.or {k : Int} (h : KG k) {q : Nat} (h1 : 1 ≤ q) (h2 : q ≤ 7) : KG (orI k ((2 ^ q : Nat) : Int)) := by
  unfold KG at h
  obtain ⟨n, rfl⟩ : ∃ n : Nat, k = 2 * (n : Int) + 2 := ⟨((k - 2) / 2).toNat, by omega⟩
  obtain ⟨r, rfl⟩ : ∃ r, q = r + 1 := ⟨q - 1, by omega⟩
  have h9 := List.all_eq_true.1 (List.all_eq_true.1 u5w n (List.mem_range.2 (by omega))) r (List.mem_range.2 (by omega))
  have h8 := of_decide_eq_true h9
  exact h8
theorem KG.one {q : Nat} (h1 : 1 ≤ q) (h2 : q ≤ 7) : KG ((2 ^ q : Nat) : Int) := by
  match q, h1, h2 with
  | 1, _, _ => exact ⟨by decide, by decide, by decide⟩
  | 2, _, _ => exact ⟨by decide, by decide, by decide⟩
  | 3, _, _ => exact ⟨by decide, by decide, by decide⟩
  | 4, _, _ => exact ⟨by decide, by decide, by decide⟩
  | 5, _, _ => exact ⟨by decide, by decide, by decide⟩
  | 6, _, _ => exact ⟨by decide, by decide, by decide⟩
  | 7, _, _ => exact ⟨by decide, by decide, by decide⟩
theorem u69 {l : List Int} {k : Int} (hl : Byt l) (hk : KG k) : ∀ i, KG (knK l k i)
  | 0 => hk
  | i + 1 => by
    obtain ⟨q, h1, h2, e⟩ := u0n (cM l i) (vN hl i)
    show KG (orI (knK l k i) (kbV (cM l i)))
    rw [e]; exact (u69 hl hk i).or h1 h2
theorem u12 {l : List Int} (h : Byt l) : KG (tW l) := by
  unfold tW bo1
  obtain ⟨q, h1, h2, e⟩ := u0n l h
  rw [e]; exact u69 (kH _ (kH _ h)) (KG.one h1 h2) _
def kgC : Bool := (List.range 127).all fun n => decide (dW (2 * (n : Int) + 2) = 0) && (List.range 7).any fun q => decide (odV ((2 * (n : Int) + 2) / ((2 ^ (q + 1) : Nat) : Int)) = 1)
theorem u6a : kgC = true := by kernel_rfl
theorem KG.ok {k : Int} (h : KG k) : (¬ k = 0 ∧ dW k = 0) ∧ ∃ q, 1 ≤ q ∧ q ≤ 7 ∧ kiB k q = true := by
  unfold KG at h
  obtain ⟨n, rfl⟩ : ∃ n : Nat, k = 2 * (n : Int) + 2 := ⟨((k - 2) / 2).toNat, by omega⟩
  have h1 := List.all_eq_true.1 u6a n (List.mem_range.2 (by omega))
  rw [Bool.and_eq_true, decide_eq_true_iff] at h1
  obtain ⟨q, hq, h2⟩ := List.any_eq_true.1 h1.2
  have hq := List.mem_range.1 hq
  exact ⟨⟨by omega, h1.1⟩, q + 1, by omega, by omega, decide_eq_true ⟨by omega, by omega, of_decide_eq_true h2⟩⟩
/-! sets -/
def SpB (l : List Int) (n : Nat) (lo hi : Int) : Prop := l.length = n * 2 ∧ ∀ p ∈ uU l, lo ≤ p.1 ∧ p.1 ≤ p.2 ∧ p.2 ≤ hi
theorem k7q (a b : Int) : uU [a, b] = [(a, b)] := rfl
theorem u0b {sp : List Int} {n : Nat} {lo hi : Int} (h : SpB sp n lo hi) (l : List Int) : ∀ i, i ≤ n → ∃ k, k ≤ i ∧ SpB (oM sp l i) k lo hi
  | 0, _ => ⟨0, Nat.le_refl _, rfl, fun p hp => by cases hp⟩
  | i + 1, hi_ => by
    obtain ⟨k, hk, hl, hb⟩ := u0b h l i zo
    rw [oM]; split
    · refine ⟨k + 1, by omega, by rw [List.length_append]; simp only [List.length_cons, List.length_nil]; omega, fun p hp => ?_⟩
      rw [sE hl] at hp
      rcases List.mem_append.1 hp with hp | hp
      · exact hb p hp
      · rw [List.mem_singleton.1 hp]; exact h.2 _ ((c4 h.1).2 ⟨i, by omega, rfl⟩)
    · exact ⟨k, by omega, hl, hb⟩
theorem u0d {sp : List Int} {n : Nat} {lo hi : Int} (h : SpB sp n lo hi) (h1 : 1 ≤ n) (l : List Int) (hl : kC (uB l n) (n : Int) < n) : 1 ≤ vT sp l n ∧ vT sp l n ≤ n ∧ SpB (vX sp l n) (vT sp l n) lo hi := by
  obtain ⟨k, hk, h2, h3⟩ := u0b h l n (Nat.le_refl _)
  by_cases e : oM sp l n = []
  · have e1 : vX sp l n = [List.getD sp (kC (uB l n) (n : Int) * 2) 0, List.getD sp (kC (uB l n) (n : Int) * 2 + 1) 0] := if_pos e
    have e2 : vT sp l n = 1 := by simp [vT, e1]
    rw [e2, e1]
    refine ⟨Nat.le_refl _, h1, rfl, fun p hp => ?_⟩
    rw [k7q] at hp
    rw [List.mem_singleton.1 hp]; exact h.2 _ ((c4 h.1).2 ⟨_, hl, rfl⟩)
  · have e1 : vX sp l n = oM sp l n := if_neg e
    have e2 : vT sp l n = k := by unfold vT; rw [e1, h2]; omega
    have hk0 : k ≠ 0 := fun e3 => e (List.eq_nil_of_length_eq_zero (by omega))
    rw [e2, e1]
    exact ⟨by omega, hk, h2, h3⟩
theorem u2m {l : List Int} {n : Nat} (hl : l.length = n * 2) (hr : RG l n) (z : Int) : eD (uU (rS l)) z ↔ eD (uU l) z := by
  unfold rS; rw [wT]; exact (k3n (hr.v hl)).2.1 z
theorem u0i {l : List Int} {n : Nat} {lo hi : Int} (h : SpB l n lo hi) (h1 : 1 ≤ n) (h2 : n ≤ 64) (hlo : 0 ≤ lo) (hhi : hi ≤ 2147483647) : d8 (dE l n) (yZ l n) lo hi = true := by
  obtain ⟨hl, hb⟩ := h
  have hr : RG l n := u18 hl fun p hp => by have := hb p hp; unfold iS; omega
  have hj := u0o hl hr
  obtain ⟨_, e1, e2⟩ := k02 (jX.2 hr) zo
  have hva := u2k hl
  have hlen := xJ l
  have hok : l0 (uU (rS l)) := by rw [← e1]; exact k3o hl
  have hme : ∀ z, eD (uU (rS l)) z ↔ eD (uU l) z := u2m hl hr
  rw [e1, e2] at *
  have hsv : ∀ p ∈ uU (rS l), lo ≤ p.1 ∧ p.1 ≤ p.2 ∧ p.2 ≤ hi := fun p hp => by
    have hv := k3a hok p hp
    unfold iS at hv
    obtain ⟨q, hq, q1⟩ := (hme p.1).1 ⟨p, hp, by omega⟩
    obtain ⟨r, hr_, r1⟩ := (hme p.2).1 ⟨p, hp, by omega⟩
    have b1 := hb q hq; have b2 := hb r hr_
    omega
  have hn : 1 ≤ lF l := by
    have hm : (List.getD l (0 * 2) 0, List.getD l (0 * 2 + 1) 0) ∈ uU l := (c4 hl).2 ⟨0, by omega, rfl⟩
    have b1 := hb _ hm
    obtain ⟨q, hq, _⟩ := (hme (List.getD l (0 * 2) 0)).2 ⟨_, hm, by simp only at b1 ⊢; omega⟩
    have : 0 < (uU (rS l)).length := List.length_pos_of_mem hq
    rw [uH hlen] at this; exact this
  have f1 := hsv _ ((c4 hlen).2 ⟨0, by omega, rfl⟩)
  have f2 := hsv _ ((c4 hlen).2 ⟨lF l - 1, by omega, rfl⟩)
  exact u1n hva ⟨hn, f1.1, f2.2.2⟩
/-! maps -/
theorem u61 : ∀ m ∈ lB, fG m m.length = true := by decide
theorem u2i {l : List Int} (h : Byt l) : uY l ∈ lB := by
  have h2 := kZ l 7 h
  have h3 : kC l 7 < lB.length := by show _ < 7; omega
  unfold uY
  rw [List.getD_eq_getElem?_getD, List.getElem?_eq_getElem h3]; exact List.getElem_mem h3
theorem u1s {ms : List (List Int)} {m : List Int} (h : lY ms m = false) : m ∉ ms := fun hm => by
  have : lY ms m = true := List.any_eq_true.2 ⟨m, hm, decide_eq_true ⟨rfl, rfl⟩⟩
  rw [this] at h; cases h
def MsV (ms : List (List Int)) : Prop := (∀ m ∈ ms, fG m m.length = true) ∧ ms.Pairwise fun a b => a ≠ b
theorem u5z {l : List Int} (h : Byt l) : ∀ i, MsV (l5 l i)
  | 0 => ⟨fun m hm => (by cases hm), List.Pairwise.nil⟩
  | i + 1 => by
    obtain ⟨h1, h2⟩ := u5z h i
    rw [l5]; split
    · exact ⟨h1, h2⟩
    · rename_i hn
      have hn : lY (l5 l i) (uY (l6 l i)) = false := by simpa using hn
      refine ⟨fun m hm => ?_, List.pairwise_append.2 ⟨h2, List.pairwise_singleton .., fun a ha b hb => ?_⟩⟩
      · rcases List.mem_append.1 hm with hm | hm
        · exact h1 m hm
        · rw [List.mem_singleton.1 hm]; exact u61 _ (u2i (fM h i))
      · rw [List.mem_singleton.1 hb]; intro e; exact u1s hn (e ▸ ha)
theorem u60 (l : List Int) : ∀ i, 1 ≤ i → 1 ≤ (l5 l i).length
  | 0, h => absurd h (by decide)
  | i + 1, _ => by
    rw [l5]; split
    · rename_i hn
      cases e : l5 l i with
      | nil => rw [e] at hn; cases hn
      | cons a r => rw [List.length_cons]; omega
    · rw [List.length_append, List.length_singleton]; omega
theorem u4i {ms : List (List Int)} (h : MsV ms) (h1 : 1 ≤ ms.length) (h2 : ms.length ≤ 16) : rP ms = true := by
  refine u1o h1 h2 fun i hi => k23 ?_ ?_
  · rw [show List.getD ms i [] = ms[i] by rw [List.getD_eq_getElem?_getD, List.getElem?_eq_getElem hi]; rfl]
    exact h.1 _ (List.getElem_mem hi)
  · rw [show List.getD ms i [] = ms[i] by rw [List.getD_eq_getElem?_getD, List.getElem?_eq_getElem hi]; rfl]
    refine decide_eq_false fun hm => ?_
    obtain ⟨j, hj, e⟩ := List.mem_iff_getElem.1 hm
    rw [List.length_take] at hj
    rw [List.getElem_take] at e
    exact List.pairwise_iff_getElem.1 h.2 j i (by omega) hi (by omega) e
/-! boxes -/
theorem u8f : SpB rtT 5 1000 768000 := ⟨rfl, by decide⟩
theorem u7v : SpB szT 4 1 65536 := ⟨rfl, by decide⟩
theorem zB {l : List Int} {n : Nat} {lo hi : Int} (h : d8 l n lo hi = true) : fF l n = true ∧ spS l n = l ∧ spN l n = n ∧ 1 ≤ n := by
  unfold d8 at h
  rw [Bool.and_eq_true, decide_eq_true_iff] at h
  exact ⟨h.1, (u54 h.1).1, (u54 h.1).2, h.2.1⟩
theorem u4j {ms : List (List Int)} (h : rP ms = true) : 1 ≤ ms.length := (of_decide_eq_true h).1
attribute [local irreducible] vX yI vT dE yZ kC kA uY lY cM l6 l5 knK d8 rP
theorem u3n {l : List Int} (h : Byt l) : dH (boX l).k (boX l).r (boX l).rn (boX l).m (boX l).s (boX l).sn = true := by
  have b1 : Byt (bo1 l) := kH _ (kH _ h)
  have b2 : Byt (bo2 l) := vN b1 _
  have b3 : Byt (bo3 l) := v8 b2
  have b4 : Byt (bo4 l) := v8 b3
  have b5 : Byt (bo5 l) := kH _ b4
  have n1 := kZ (uB (bo2 l) 5) 5 (yY b2 5)
  have n2 := kZ (uB (bo3 l) 4) 4 (yY b3 4)
  have n3 := kZ (bo4 l) 3 b4
  obtain ⟨r1, r2, r3⟩ := u0d u8f (by decide) (bo2 l) (by show kC _ 5 < 5; omega)
  obtain ⟨s1, s2, s3⟩ := u0d u7v (by decide) (bo3 l) (by show kC _ 4 < 4; omega)
  have m1 := u60 (bo5 l) (boN l) (by unfold boN; omega)
  have m2 := xD (bo5 l) (boN l)
  have m3 : boN l ≤ 3 := by unfold boN; omega
  show dH (tW l) (tV l) (rU l) (iY l) (tU l) (rT l) = true
  unfold tV rU iY tU rT
  exact u3m (u12 h).ok.1 (u0i r3 r1 (by omega) (by decide) (by decide)) (u4i (u5z b5 _) m1 (by omega)) (u0i s3 s1 (by omega) (by decide) (by decide))
def BxV (b : Bx) : Prop := BxW b ∧ KG b.k ∧ dH b.k b.r b.rn b.m b.s b.sn = true
def BsV (bs : List Bx) : Prop := ∀ b ∈ bs, BxV b
theorem tS {k : Int} {r : List Int} {rn : Nat} {m : List (List Int)} {s : List Int} {sn : Nat} (h : dH k r rn m s sn = true) : (¬ k = 0 ∧ dW k = 0) ∧ d8 r rn 1000 768000 = true ∧ rP m = true ∧ d8 s sn 1 65536 = true := by
  unfold dH at h
  rw [Bool.and_eq_true, Bool.and_eq_true, Bool.and_eq_true, decide_eq_true_iff] at h
  exact h
theorem BxV.g {b : Bx} (h : BxV b) : BxG b := by
  obtain ⟨h1, h2, h3⟩ := h
  obtain ⟨_, p2, p3, p4⟩ := tS h3
  obtain ⟨_, _, r3, r4⟩ := zB p2
  obtain ⟨_, _, s3, s4⟩ := zB p4
  exact ⟨h1, by omega, by omega, u4j p3, h2.ok.2⟩
theorem BsV.g {bs : List Bx} (h : BsV bs) : BsG bs := fun b hb => (h b hb).g
theorem BsV.w {bs : List Bx} (h : BsV bs) : BsW bs := fun b hb => (h b hb).1
theorem BsV.vb {bs : List Bx} (h : BsV bs) (hn : bs.length ≤ 64) : iP bs = true := u1p hn fun i hi => (h _ (gA hi)).2.2
theorem BsV.eq {bs : List Bx} (h : BsV bs) (hn : bs.length ≤ 64) : bxL bs = bs := u71 (h.vb hn)
theorem BsV.nil : BsV [] := fun b hb => by cases hb
theorem BsV.app {a b : List Bx} (h : BsV a) (h2 : BsV b) : BsV (a ++ b) := fun m hm => (List.mem_append.1 hm).elim (h m) (h2 m)
theorem BsV.one {b : Bx} (h : BxV b) : BsV [b] := fun m hm => by rw [List.mem_singleton.1 hm]; exact h
theorem BsV.box {xs : List Bx} (h : BsV xs) {i : Nat} (hi : i < xs.length) : BxV (aQ (vU xs i) (aE xs i) (yJ xs i) (qD xs i) (cH xs i) (aA xs i)) := h _ (gA hi)
theorem u13 {l : List Int} (h : Byt l) : ∀ i, BsV (bbL l i)
  | 0 => BsV.nil
  | i + 1 => (u13 h i).app (BsV.one ⟨u11 _, u12 (gD h i), u3n (gD h i)⟩)
end Go.Proofs.YtdbjebdomdnbkaaGreat
namespace Go.Proofs.YtdbjebdomdnbkaaGreat
open Go.ChangeShapes Go.WideShapes Go.ChangeAt Go.RowKit
set_option linter.unusedVariables false
set_option linter.unusedSimpArgs false
/-! chapter 11: sums of bytes -/
set_option maxHeartbeats 4000000
set_option maxRecDepth 100000
def vR (a b : Int) : Int := qJ .xor .u32 a b
def rD (a : Int) : Int := qJ .and .u32 a 1
theorem mR (a b : Int) : qJ .xor .u32 a b = vR a b := rfl
theorem u14 (a : Int) : qJ .and .u32 a 1 = rD a := rfl
theorem u1k (a b : Int) : vR a b = ((BitVec.ofInt 32 a ^^^ BitVec.ofInt 32 b).toNat : Int) := by
  show IntKind.u32.wrap _ = _
  exact bO (by simp only [wE]; have := (BitVec.ofInt 32 a ^^^ BitVec.ofInt 32 b).isLt; exact ⟨by omega, by show (((BitVec.ofInt 32 a ^^^ BitVec.ofInt 32 b).toNat : Nat) : Int) ≤ 4294967295; omega⟩)
theorem v5 (a b : Int) : 0 ≤ vR a b ∧ vR a b ≤ 4294967295 := by
  rw [u1k]; have := (BitVec.ofInt 32 a ^^^ BitVec.ofInt 32 b).isLt; omega
def vK (r : Int) : Nat → Int
  | 0 => r
  | k + 1 => if rD (vK r k) = 1 then vR (vK r k / 2) 3988292384 else vK r k / 2
theorem dJ {r z : Int} {k : Nat} (h : vK r k = z) (h1 : rD z = 1) : vK r (k + 1) = vR (z / 2) 3988292384 := by subst h; exact if_pos h1
theorem dK {r z : Int} {k : Nat} (h : vK r k = z) (h1 : ¬ rD z = 1) : vK r (k + 1) = z / 2 := by subst h; exact if_neg h1
def wB (l : List Int) : Nat → Int
  | 0 => 4294967295
  | k + 1 => vK (vR (wB l k) (List.getD l k 0)) 8
theorem k0v {l : List Int} {y z : Int} {k : Nat} (h : wB l k = y) (h1 : vK (vR y (List.getD l k 0)) 8 = z) : wB l (k + 1) = z := by subst h; exact h1
theorem u55 (l : List Int) : wB l 0 = 4294967295 := rfl
theorem u6x (x : Int) : vK x 0 = x := rfl
def kI (l : List Int) : Int := vR 4294967295 (wB l l.length)
theorem cY (l : List Int) : 0 ≤ kI l ∧ kI l ≤ 4294967295 := v5 _ _
theorem u1u {l : List Int} {y : Int} {k m : Nat} (hm : l.length = m) (hk : k = m) (h : wB l k = y) : vR 4294967295 y = kI l := by subst hk; subst hm; subst h; rfl
attribute [local irreducible] vK wB kI vR rD
theorem k6y (l : List Int) (m : Nat) (hm : List.length l = m) (hb : m ≤ 1000000) (hy : Byt l) : Fun 25 [.c (.d (D.sl (dI .u8 l) m))] (kD []) 0 (kP (D.lit (.int .u32 (kI l)))) (kD []) 0 := by
  refine Fun.mk (n := 31) Tryz.func25 rfl rfl (Nat.le_of_ble_eq_true rfl) ?_
  intro cx hcx
  refine kG [.no] True [(0, sV .u8 l m)] [] 0 trivial ?_
  refine kV [.no] True [(0, sV .u8 l m), (3, kP (D.lit (.int .u32 4294967295)))] trivial ?_
  refine AW.seq ?_
  refine kV [.no, .no, .no] True [(3, kP (D.lit (.int .u32 4294967295))), (7, sV .u8 l m), (8, uV m), (9, iV 0)] trivial ?_
  refine AW.block ?_
  refine kU 0 hcx (fun (x : {x : Nat × Int // match x with | (k, y) => (k ≤ m) ∧ (wB l k = y) ∧ (0 ≤ y ∧ y ≤ 4294967295)}) => match x with | ⟨(k, y), _⟩ => (⟨[(3, kP (D.lit (.int .u32 y))), (7, sV .u8 l m), (8, uV m), (9, uV k)], [], 0⟩ : ES)) (fun x => match x with | ⟨(k, y), _⟩ => m - k) ⟨((0 : Nat), (4294967295 : Int)), ⟨zo, (u55 _), zo⟩⟩ [] (P := (kM 4294967295) ∧ (kY (dI .u8 l)) ∧ (kQ m) ∧ (kM (m : Int)) ∧ (kM 0)) zk ⟨rfl, rfl, rfl, rfl, rfl⟩ ?_
  rintro ⟨⟨k, y⟩, hinv0⟩
  obtain ⟨hk, hv, hr⟩ : (k ≤ m) ∧ (wB l k = y) ∧ (0 ≤ y ∧ y ≤ 4294967295) := hinv0
  refine qV (l := [(3, kP (D.lit (.int .u32 y))), (7, sV .u8 l m), (8, uV m), (9, uV k)]) (g := []) (nx := 0) rfl rfl rfl ?_
  by_cases hx1 : (((k : Nat) : Int) < ((m : Nat) : Int))
  · refine zr [.b true] [3, 7, 8, 9, 10] [] (((k : Int) < (m : Int))) [(3, kP (D.lit (.int .u32 y))), (7, sV .u8 l m), (8, uV m), (9, uV k), (10, bV true)] [] 0 zo ?_
    refine AW.seq ?_
    refine u1 ?_
    refine AW.seq ?_
    refine AW.block ?_
    have hx2 : 0 ≤ (List.getD l k 0) ∧ (List.getD l k 0) ≤ 255 := (kL : Byt l).at _ zo
    refine kG [.n k, .d (D.lit (.int .u8 (List.getD l k 0))), .no] ((kM (k : Int)) ∧ (k < m) ∧ ((List.drop k (dI .u8 l))[0]? = some (D.lit (.int .u8 (List.getD l k 0))))) [(3, kP (D.lit (.int .u32 y))), (5, kP (D.lit (.int .u8 (List.getD l k 0)))), (7, sV .u8 l m), (8, uV m), (9, uV k)] [] 0 ⟨rfl, zo, (qN _ _ _ zo)⟩ ?_
    have hx3 : 0 ≤ (vR y (List.getD l k 0)) ∧ (vR y (List.getD l k 0)) ≤ 4294967295 := v5 _ _
    refine kV [.no, .no, .w, .i (vR y (List.getD l k 0)), .no] ((0 ≤ (List.getD l k 0) ∧ (List.getD l k 0) ≤ 4294967295) ∧ (qJ .xor .u32 y (List.getD l k 0) = (vR y (List.getD l k 0)))) [(3, kP (D.lit (.int .u32 (vR y (List.getD l k 0))))), (7, sV .u8 l m), (8, uV m), (9, uV k)] ⟨⟨by omega, by omega⟩, (mR _ _)⟩ ?_
    refine kV [.no] True [(3, kP (D.lit (.int .u32 (vR y (List.getD l k 0))))), (7, sV .u8 l m), (8, uV m), (9, uV k), (17, iV 0)] trivial ?_
    refine AW.block ?_
    refine kU 0 hcx (fun (x : {x : Nat × Int // match x with | (j, z) => (j ≤ 8) ∧ (vK (vR y (List.getD l k 0)) j = z) ∧ (0 ≤ z ∧ z ≤ 4294967295)}) => match x with | ⟨(j, z), _⟩ => (⟨[(3, kP (D.lit (.int .u32 z))), (7, sV .u8 l m), (8, uV m), (9, uV k), (17, uV j)], [], 0⟩ : ES)) (fun x => match x with | ⟨(j, z), _⟩ => 8 - j) ⟨((0 : Nat), ((vR y (List.getD l k 0)) : Int)), ⟨zo, (u6x _), (v5 _ _)⟩⟩ [] (P := (kM (vR y (List.getD l k 0))) ∧ (kY (dI .u8 l)) ∧ (kQ m) ∧ (kM (m : Int)) ∧ (kM (k : Int)) ∧ (kM 0)) zk ⟨rfl, rfl, rfl, rfl, rfl, rfl⟩ ?_
    rintro ⟨⟨j, z⟩, hinv1⟩
    obtain ⟨hj, hz, hs⟩ : (j ≤ 8) ∧ (vK (vR y (List.getD l k 0)) j = z) ∧ (0 ≤ z ∧ z ≤ 4294967295) := hinv1
    refine qV (l := [(3, kP (D.lit (.int .u32 z))), (7, sV .u8 l m), (8, uV m), (9, uV k), (17, uV j)]) (g := []) (nx := 0) rfl rfl rfl ?_
    by_cases hx4 : (((j : Nat) : Int) < 8)
    · refine zr [.b true] [3, 7, 8, 9, 17, 18] [] (((j : Int) < 8)) [(3, kP (D.lit (.int .u32 z))), (7, sV .u8 l m), (8, uV m), (9, uV k), (17, uV j), (18, bV true)] [] 0 zo ?_
      refine AW.seq ?_
      refine u1 ?_
      refine AW.seq ?_
      refine AW.block ?_
      refine kG [.no, .i (rD z), .no] (qJ .and .u32 z 1 = (rD z)) [(3, kP (D.lit (.int .u32 z))), (6, kP (D.lit (.int .u32 (rD z)))), (7, sV .u8 l m), (8, uV m), (9, uV k), (17, uV j)] [] 0 (u14 _) ?_
      refine kV [.no, .n 1, .no] ((kM 1) ∧ ((1 : Nat) ≤ 32)) [(3, kP (D.lit (.int .u32 (z / 2)))), (6, kP (D.lit (.int .u32 (rD z)))), (7, sV .u8 l m), (8, uV m), (9, uV k), (17, uV j)] ⟨rfl, zo⟩ ?_
      by_cases hx5 : ((rD z) = 1)
      · refine zr [.no, .b true] [3, 7, 8, 9, 17, 24] [] (((rD z) = 1)) [(3, kP (D.lit (.int .u32 (z / 2)))), (7, sV .u8 l m), (8, uV m), (9, uV k), (17, uV j), (24, bV true)] [] 0 zo ?_
        refine zt ?_
        have hx6 : 0 ≤ (vR (z / 2) 3988292384) ∧ (vR (z / 2) 3988292384) ≤ 4294967295 := v5 _ _
        refine aC [.no, .i (vR (z / 2) 3988292384), .no] (qJ .xor .u32 (z / 2) 3988292384 = (vR (z / 2) 3988292384)) [(3, kP (D.lit (.int .u32 (vR (z / 2) 3988292384)))), (7, sV .u8 l m), (8, uV m), (9, uV k), (17, uV j)] [] 0 (mR _ _) ?_
        refine uG [.w, .no] (qB ((j : Int) + 1)) [(3, kP (D.lit (.int .u32 (vR (z / 2) 3988292384)))), (7, sV .u8 l m), (8, uV m), (9, uV k), (17, iV (↑j + 1))] ⟨by omega, by omega⟩ ?_
        exact qH ⟨(((j + 1) : Nat), ((vR (z / 2) 3988292384) : Int)), ⟨zo, (by exact dJ hz (by assumption)), (by exact v5 _ _)⟩⟩ [] (P := (kM (vR (z / 2) 3988292384)) ∧ (kY (dI .u8 l)) ∧ (kQ m) ∧ (kM (m : Int)) ∧ (kM (k : Int)) ∧ (q1S j)) zk ⟨rfl, rfl, rfl, rfl, rfl, (by rfl)⟩ (show 8 - (j + 1) < 8 - j from zo)
      · refine zr [.no, .b false] [3, 7, 8, 9, 17, 24] [] (¬ ((rD z) = 1)) [(3, kP (D.lit (.int .u32 (z / 2)))), (7, sV .u8 l m), (8, uV m), (9, uV k), (17, uV j), (24, bV false)] [] 0 zo ?_
        refine uM ?_
        refine aC [.w, .no] (qB ((j : Int) + 1)) [(3, kP (D.lit (.int .u32 (z / 2)))), (7, sV .u8 l m), (8, uV m), (9, uV k), (17, iV (↑j + 1))] [] 0 ⟨by omega, by omega⟩ ?_
        exact qH ⟨(((j + 1) : Nat), ((z / 2) : Int)), ⟨zo, (by exact dK hz (by assumption)), zo⟩⟩ [] (P := (kM (z / 2)) ∧ (kY (dI .u8 l)) ∧ (kQ m) ∧ (kM (m : Int)) ∧ (kM (k : Int)) ∧ (q1S j)) zk ⟨rfl, rfl, rfl, rfl, rfl, (by rfl)⟩ (show 8 - (j + 1) < 8 - j from zo)
    · refine zr [.b false] [3, 7, 8, 9, 17, 18] [] (¬ ((j : Int) < 8)) [(3, kP (D.lit (.int .u32 z))), (7, sV .u8 l m), (8, uV m), (9, uV k), (17, uV j), (18, bV false)] [] 0 zo ?_
      refine AW.seq ?_
      refine zf ?_
      refine AW.exit ?_
      refine aC [.w, .no] (qB ((k : Int) + 1)) [(3, kP (D.lit (.int .u32 z))), (7, sV .u8 l m), (8, uV m), (9, iV (↑k + 1))] [] 0 ⟨by omega, by omega⟩ ?_
      exact qH ⟨(((k + 1) : Nat), (z : Int)), ⟨zo, (k0v hv (by (rw [show (8 : Nat) = j by omega]; assumption))), (by assumption)⟩⟩ [] (P := (kM z) ∧ (kY (dI .u8 l)) ∧ (kQ m) ∧ (kM (m : Int)) ∧ (q1S k)) zk ⟨rfl, rfl, rfl, rfl, (by rfl)⟩ (show m - (k + 1) < m - k from zo)
  · refine zr [.b false] [3, 7, 8, 9, 10] [] (¬ ((k : Int) < (m : Int))) [(3, kP (D.lit (.int .u32 y))), (7, sV .u8 l m), (8, uV m), (9, uV k), (10, bV false)] [] 0 zo ?_
    refine AW.seq ?_
    refine zf ?_
    refine AW.exit ?_
    have hx7 : 0 ≤ (vR 4294967295 y) ∧ (vR 4294967295 y) ≤ 4294967295 := v5 _ _
    refine kG [.no, .i (vR 4294967295 y), .no] (qJ .xor .u32 4294967295 y = (vR 4294967295 y)) [(2, kP (D.lit (.int .u32 (vR 4294967295 y))))] [] 0 (mR _ _) ?_
    refine AW.ret ?_
    exact kB (.inr rfl) [] (P := (((kI l) : Int) = (vR 4294967295 y))) zk (by exact (u1u hm zo hv).symm)
theorem rK (l : List Int) (m : Nat) (hm : List.length l = m) (hb : m ≤ 1000000) (hy : Byt l) : Fun 21 [.c (.d (D.sl (dI .u8 l) m))] (kD []) 0 (kP (D.lit (.int .u32 (kI l)))) (kD []) 0 := by
  refine Fun.mk (n := 33) Tryz.func21 rfl rfl (Nat.le_of_ble_eq_true rfl) ?_
  intro cx hcx
  refine kG [.no] True [(0, sV .u8 l m)] [] 0 trivial ?_
  refine kV [.no] True [(0, sV .u8 l m), (3, kP (D.lit (.int .u32 4294967295)))] trivial ?_
  refine AW.seq ?_
  refine kV [.no, .no, .no] True [(3, kP (D.lit (.int .u32 4294967295))), (8, sV .u8 l m), (9, uV m), (10, iV 0)] trivial ?_
  refine AW.block ?_
  refine kU 0 hcx (fun (x : {x : Nat × Int // match x with | (k, y) => (k ≤ m) ∧ (wB l k = y) ∧ (0 ≤ y ∧ y ≤ 4294967295)}) => match x with | ⟨(k, y), _⟩ => (⟨[(3, kP (D.lit (.int .u32 y))), (8, sV .u8 l m), (9, uV m), (10, uV k)], [], 0⟩ : ES)) (fun x => match x with | ⟨(k, y), _⟩ => m - k) ⟨((0 : Nat), (4294967295 : Int)), ⟨zo, (u55 _), zo⟩⟩ [] (P := (kM 4294967295) ∧ (kY (dI .u8 l)) ∧ (kQ m) ∧ (kM (m : Int)) ∧ (kM 0)) zk ⟨rfl, rfl, rfl, rfl, rfl⟩ ?_
  rintro ⟨⟨k, y⟩, hinv0⟩
  obtain ⟨hk, hv, hr⟩ : (k ≤ m) ∧ (wB l k = y) ∧ (0 ≤ y ∧ y ≤ 4294967295) := hinv0
  refine qV (l := [(3, kP (D.lit (.int .u32 y))), (8, sV .u8 l m), (9, uV m), (10, uV k)]) (g := []) (nx := 0) rfl rfl rfl ?_
  by_cases hx1 : (((k : Nat) : Int) < ((m : Nat) : Int))
  · refine zr [.b true] [3, 8, 9, 10, 11] [] (((k : Int) < (m : Int))) [(3, kP (D.lit (.int .u32 y))), (8, sV .u8 l m), (9, uV m), (10, uV k), (11, bV true)] [] 0 zo ?_
    refine AW.seq ?_
    refine u1 ?_
    refine AW.seq ?_
    refine AW.block ?_
    have hx2 : 0 ≤ (List.getD l k 0) ∧ (List.getD l k 0) ≤ 255 := (kL : Byt l).at _ zo
    refine kG [.n k, .d (D.lit (.int .u8 (List.getD l k 0))), .no] ((kM (k : Int)) ∧ (k < m) ∧ ((List.drop k (dI .u8 l))[0]? = some (D.lit (.int .u8 (List.getD l k 0))))) [(3, kP (D.lit (.int .u32 y))), (5, kP (D.lit (.int .u8 (List.getD l k 0)))), (8, sV .u8 l m), (9, uV m), (10, uV k)] [] 0 ⟨rfl, zo, (qN _ _ _ zo)⟩ ?_
    have hx3 : 0 ≤ (vR y (List.getD l k 0)) ∧ (vR y (List.getD l k 0)) ≤ 4294967295 := v5 _ _
    refine kV [.no, .no, .w, .i (vR y (List.getD l k 0)), .no] ((0 ≤ (List.getD l k 0) ∧ (List.getD l k 0) ≤ 4294967295) ∧ (qJ .xor .u32 y (List.getD l k 0) = (vR y (List.getD l k 0)))) [(3, kP (D.lit (.int .u32 (vR y (List.getD l k 0))))), (8, sV .u8 l m), (9, uV m), (10, uV k)] ⟨⟨by omega, by omega⟩, (mR _ _)⟩ ?_
    refine kV [.no] True [(3, kP (D.lit (.int .u32 (vR y (List.getD l k 0))))), (6, iV 0), (8, sV .u8 l m), (9, uV m), (10, uV k)] trivial ?_
    refine AW.block ?_
    refine kU 0 hcx (fun (x : {x : Nat × Int // match x with | (j, z) => (j ≤ 8) ∧ (vK (vR y (List.getD l k 0)) j = z) ∧ (0 ≤ z ∧ z ≤ 4294967295)}) => match x with | ⟨(j, z), _⟩ => (⟨[(3, kP (D.lit (.int .u32 z))), (6, uV j), (8, sV .u8 l m), (9, uV m), (10, uV k)], [], 0⟩ : ES)) (fun x => match x with | ⟨(j, z), _⟩ => 8 - j) ⟨((0 : Nat), ((vR y (List.getD l k 0)) : Int)), ⟨zo, (u6x _), (v5 _ _)⟩⟩ [] (P := (kM (vR y (List.getD l k 0))) ∧ (kM 0) ∧ (kY (dI .u8 l)) ∧ (kQ m) ∧ (kM (m : Int)) ∧ (kM (k : Int))) zk ⟨rfl, rfl, rfl, rfl, rfl, rfl⟩ ?_
    rintro ⟨⟨j, z⟩, hinv1⟩
    obtain ⟨hj, hz, hs⟩ : (j ≤ 8) ∧ (vK (vR y (List.getD l k 0)) j = z) ∧ (0 ≤ z ∧ z ≤ 4294967295) := hinv1
    refine qV (l := [(3, kP (D.lit (.int .u32 z))), (6, uV j), (8, sV .u8 l m), (9, uV m), (10, uV k)]) (g := []) (nx := 0) rfl rfl rfl ?_
    refine AW.seq ?_
    by_cases hx4 : (((j : Nat) : Int) < 8)
    · refine zr [.no, .b true] [3, 6, 8, 9, 10, 19] [] (((j : Int) < 8)) [(3, kP (D.lit (.int .u32 z))), (6, uV j), (8, sV .u8 l m), (9, uV m), (10, uV k), (19, bV true)] [] 0 zo ?_
      refine u1 ?_
      refine AW.seq ?_
      refine AW.block ?_
      refine kG [.no, .i (rD z), .no] (qJ .and .u32 z 1 = (rD z)) [(3, kP (D.lit (.int .u32 z))), (6, uV j), (7, kP (D.lit (.int .u32 (rD z)))), (8, sV .u8 l m), (9, uV m), (10, uV k)] [] 0 (u14 _) ?_
      refine kV [.no, .n 1, .no] ((kM 1) ∧ ((1 : Nat) ≤ 32)) [(3, kP (D.lit (.int .u32 (z / 2)))), (6, uV j), (7, kP (D.lit (.int .u32 (rD z)))), (8, sV .u8 l m), (9, uV m), (10, uV k)] ⟨rfl, zo⟩ ?_
      by_cases hx5 : ((rD z) = 1)
      · refine zr [.no, .b true] [3, 6, 8, 9, 10, 27] [] (((rD z) = 1)) [(3, kP (D.lit (.int .u32 (z / 2)))), (6, uV j), (8, sV .u8 l m), (9, uV m), (10, uV k), (27, bV true)] [] 0 zo ?_
        refine zt ?_
        have hx6 : 0 ≤ (vR (z / 2) 3988292384) ∧ (vR (z / 2) 3988292384) ≤ 4294967295 := v5 _ _
        refine aC [.no, .i (vR (z / 2) 3988292384), .no] (qJ .xor .u32 (z / 2) 3988292384 = (vR (z / 2) 3988292384)) [(3, kP (D.lit (.int .u32 (vR (z / 2) 3988292384)))), (6, uV j), (8, sV .u8 l m), (9, uV m), (10, uV k)] [] 0 (mR _ _) ?_
        refine uG [.no, .w, .no] (qB ((j : Int) + 1)) [(3, kP (D.lit (.int .u32 (vR (z / 2) 3988292384)))), (6, iV (↑j + 1)), (8, sV .u8 l m), (9, uV m), (10, uV k)] ⟨by omega, by omega⟩ ?_
        exact qH ⟨(((j + 1) : Nat), ((vR (z / 2) 3988292384) : Int)), ⟨zo, (by exact dJ hz (by assumption)), (by exact v5 _ _)⟩⟩ [] (P := (kM (vR (z / 2) 3988292384)) ∧ (q1S j) ∧ (kY (dI .u8 l)) ∧ (kQ m) ∧ (kM (m : Int)) ∧ (kM (k : Int))) zk ⟨rfl, (by rfl), rfl, rfl, rfl, rfl⟩ (show 8 - (j + 1) < 8 - j from zo)
      · refine zr [.no, .b false] [3, 6, 8, 9, 10, 27] [] (¬ ((rD z) = 1)) [(3, kP (D.lit (.int .u32 (z / 2)))), (6, uV j), (8, sV .u8 l m), (9, uV m), (10, uV k), (27, bV false)] [] 0 zo ?_
        refine uM ?_
        refine aC [.no, .w, .no] (qB ((j : Int) + 1)) [(3, kP (D.lit (.int .u32 (z / 2)))), (6, iV (↑j + 1)), (8, sV .u8 l m), (9, uV m), (10, uV k)] [] 0 ⟨by omega, by omega⟩ ?_
        exact qH ⟨(((j + 1) : Nat), ((z / 2) : Int)), ⟨zo, (by exact dK hz (by assumption)), zo⟩⟩ [] (P := (kM (z / 2)) ∧ (q1S j) ∧ (kY (dI .u8 l)) ∧ (kQ m) ∧ (kM (m : Int)) ∧ (kM (k : Int))) zk ⟨rfl, (by rfl), rfl, rfl, rfl, rfl⟩ (show 8 - (j + 1) < 8 - j from zo)
    · refine zr [.no, .b false] [3, 6, 8, 9, 10, 19] [] (¬ ((j : Int) < 8)) [(3, kP (D.lit (.int .u32 z))), (6, uV j), (8, sV .u8 l m), (9, uV m), (10, uV k), (19, bV false)] [] 0 zo ?_
      refine zf ?_
      refine AW.exit ?_
      refine aC [.w, .no] (qB ((k : Int) + 1)) [(3, kP (D.lit (.int .u32 z))), (8, sV .u8 l m), (9, uV m), (10, iV (↑k + 1))] [] 0 ⟨by omega, by omega⟩ ?_
      exact qH ⟨(((k + 1) : Nat), (z : Int)), ⟨zo, (k0v hv (by (rw [show (8 : Nat) = j by omega]; assumption))), (by assumption)⟩⟩ [] (P := (kM z) ∧ (kY (dI .u8 l)) ∧ (kQ m) ∧ (kM (m : Int)) ∧ (q1S k)) zk ⟨rfl, rfl, rfl, rfl, (by rfl)⟩ (show m - (k + 1) < m - k from zo)
  · refine zr [.b false] [3, 8, 9, 10, 11] [] (¬ ((k : Int) < (m : Int))) [(3, kP (D.lit (.int .u32 y))), (8, sV .u8 l m), (9, uV m), (10, uV k), (11, bV false)] [] 0 zo ?_
    refine AW.seq ?_
    refine zf ?_
    refine AW.exit ?_
    have hx7 : 0 ≤ (vR 4294967295 y) ∧ (vR 4294967295 y) ≤ 4294967295 := v5 _ _
    refine kG [.no, .i (vR 4294967295 y), .no] (qJ .xor .u32 4294967295 y = (vR 4294967295 y)) [(2, kP (D.lit (.int .u32 (vR 4294967295 y))))] [] 0 (mR _ _) ?_
    refine AW.ret ?_
    exact kB (.inr rfl) [] (P := (((kI l) : Int) = (vR 4294967295 y))) zk (by exact (u1u hm zo hv).symm)
end Go.Proofs.YtdbjebdomdnbkaaGreat
