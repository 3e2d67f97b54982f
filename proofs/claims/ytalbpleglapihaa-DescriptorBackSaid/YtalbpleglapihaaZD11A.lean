/- Merged texts. -/
import Derived.Test.YtalbpleglapihaaZL10F
import Derived.Test.YtalbpleglapihaaZL10M
import Derived.Test.YtalbpleglapihaaZLWi
namespace Go.Proofs.Ytalbpleglapihaa
open Go.ChangeShapes Go.WideShapes Go.ChangeAt Go.RowKit
set_option linter.unusedVariables false
set_option linter.unusedSimpArgs false
attribute [local irreducible] y1 uZ yY bU yG kB kA uL jO aY jS jR
def cN (k : Int) (r : List Int) (rn : Nat) (m : List (List Int)) (s : List Int) (sn : Nat) : Bx := ⟨k, r, rn, m, s, sn⟩
theorem xX (xs : List Bx) (k : Int) (r : List Int) (rn : Nat) (m : List (List Int)) (c : Nat) (s : List Int) (sn : Nat) (h : m.length = c) : qC xs ++ [D.lit (.int .i64 k), D.sl (dI .i64 r) rn, D.sl (k9 m) c, D.sl (dI .i64 s) sn] = qC (xs ++ [cN k r rn m s sn]) := by
 subst h; rw [xY]; rfl
def boX (l : List Int) : Bx := cN (sH l) (sG l) (o9 l) (gC l) (sF l) (o8 l)
def uY (l : List Int) : Nat → List Int
 | 0 => l
 | i + 1 => boD (uY l i)
def bbL (l : List Int) : Nat → List Bx
 | 0 => []
 | i + 1 => bbL l i ++ [boX (uY l i)]
theorem k76 {l : List Int} (h : Byt l) : Byt (boD l) := by
 unfold boD bo5 bo4 bo3 bo2 bo1
 exact eB (kF _ (y8 (y8 (yW (kF _ (kF _ h)) _)))) _
theorem eQ {l : List Int} (h : Byt l) : ∀ i, Byt (uY l i)
 | 0 => h
 | i + 1 => k76 (eQ h i)
theorem k22 (l : List Int) : 1 + kB l 3 ≤ 1000000 := by
 by_cases h : l.length = 0 ∨ (3 : Int) ≤ 1
 ·have := aV h; omega
 ·have h1 : kB l 3 = (List.getD l 0 0 % 3).toNat := by unfold kB; exact if_neg h
  have := Int.emod_lt_of_pos (List.getD l 0 0) (b := 3) (by omega)
  omega
theorem k8m (l : List Int) : BxW (boX l) := by
 have h1 := iW (y1 rtT (bo2 l) 5) (yY rtT (bo2 l) 5)
 have h2 := iW (y1 szT (bo3 l) 4) (yY szT (bo3 l) 4)
 have h3 := tO (bo5 l) (boN l)
 have h5 := k22 (bo4 l)
 show List.length (sG l) = o9 l * 2 ∧ List.length (sF l) = o8 l * 2 ∧ o9 l ≤ 1000000 ∧ o8 l ≤ 1000000 ∧ List.length (gC l) ≤ 1000000 ∧ MsW (gC l)
 unfold sG o9 sF o8 gC
 refine ⟨eC _ _, eC _ _, ?_, ?_, ?_, k25 _ _⟩
 ·exact Nat.le_trans h1.2 (by omega)
 ·exact Nat.le_trans h2.2 (by omega)
 ·exact Nat.le_trans h3 h5
theorem oL (l : List Int) : ∀ i, List.length (bbL l i) = i
 | 0 => rfl
 | i + 1 => by rw [bbL, List.length_append, oL l i]; rfl
theorem x1 (l : List Int) : ∀ i, BsW (bbL l i)
 | 0 => BsW.nil
 | i + 1 => (x1 l i).app (BsW.one (k8m _))
theorem u63 {l : List Int} {i : Nat} {bs : List Bx} (h : bbL l i = bs) : bbL l (i + 1) = bs ++ [cN (sH (uY l i)) (sG (uY l i)) (o9 (uY l i)) (gC (uY l i)) (sF (uY l i)) (o8 (uY l i))] := by
 subst h; rfl
theorem BsW.box {xs : List Bx} (h : BsW xs) (i : Nat) : BxW (cN (bB xs i) (bY xs i) (vJ xs i) (y3 xs i) (dP xs i) (bA xs i)) := h.get i
end Go.Proofs.Ytalbpleglapihaa
namespace Go.Proofs.Ytalbpleglapihaa
open Go.ChangeShapes Go.WideShapes Go.ChangeAt Go.RowKit
set_option linter.unusedVariables false
set_option linter.unusedSimpArgs false
def BxG (b : Bx) : Prop := BxW b ∧ 1 ≤ spN b.r b.rn ∧ 1 ≤ spN b.s b.sn ∧ 1 ≤ List.length b.m ∧ ∃ q, 1 ≤ q ∧ q ≤ 7 ∧ kiB b.k q = true
def BsG (bs : List Bx) : Prop := ∀ b ∈ bs, BxG b
theorem eO {bs : List Bx} {i : Nat} (h : i < bs.length) : fO bs i ∈ bs := by
  unfold fO; rw [List.getD_eq_getElem?_getD, List.getElem?_eq_getElem h]; exact List.getElem_mem _
end Go.Proofs.Ytalbpleglapihaa
namespace Go.Proofs.Ytalbpleglapihaa
open Go.ChangeShapes Go.WideShapes Go.ChangeAt Go.RowKit
set_option linter.unusedVariables false
set_option linter.unusedSimpArgs false
/-! chapter 10: boxes out of dice are valid -/
theorem k84 (l : List Int) (h : Byt l) : ∃ q : Nat, 1 ≤ q ∧ q ≤ 7 ∧ kbV l = ((2 ^ q : Nat) : Int) := by
  have h2 := kQ l 7 h
  refine ⟨1 + kB l 7, by omega, by omega, ?_⟩
  unfold kbV
  have h3 : kB l 7 < 7 := by omega
  generalize kB l 7 = n at *
  match n, h3 with
  | 0, _ => rfl
  | 1, _ => rfl
  | 2, _ => rfl
  | 3, _ => rfl
  | 4, _ => rfl
  | 5, _ => rfl
  | 6, _ => rfl
def KG (k : Int) : Prop := 2 ≤ k ∧ k ≤ 254 ∧ k % 2 = 0
def orC : Bool := (List.range 127).all fun n => (List.range 7).all fun q => decide (2 ≤ orI (2 * (n : Int) + 2) ((2 ^ (q + 1) : Nat) : Int) ∧ orI (2 * (n : Int) + 2) ((2 ^ (q + 1) : Nat) : Int) ≤ 254 ∧ orI (2 * (n : Int) + 2) ((2 ^ (q + 1) : Nat) : Int) % 2 = 0)
theorem u2w : orC = true := by kernel_rfl
theorem KG.or {k : Int} (h : KG k) {q : Nat} (h1 : 1 ≤ q) (h2 : q ≤ 7) : KG (orI k ((2 ^ q : Nat) : Int)) := by
  unfold KG at h
  obtain ⟨n, rfl⟩ : ∃ n : Nat, k = 2 * (n : Int) + 2 := ⟨((k - 2) / 2).toNat, by omega⟩
  obtain ⟨r, rfl⟩ : ∃ r, q = r + 1 := ⟨q - 1, by omega⟩
  have h9 := List.all_eq_true.1 (List.all_eq_true.1 u2w n (List.mem_range.2 (by omega))) r (List.mem_range.2 (by omega))
  have h8 := of_decide_eq_true h9
  exact h8
theorem KG.one {q : Nat} (h1 : 1 ≤ q) (h2 : q ≤ 7) : KG ((2 ^ q : Nat) : Int) := by
  match q, h1, h2 with
  | 1, _, _ => exact ⟨by decide, by decide, by decide⟩
  | 2, _, _ => exact ⟨by decide, by decide, by decide⟩
  | 3, _, _ => exact ⟨by decide, by decide, by decide⟩
  | 4, _, _ => exact ⟨by decide, by decide, by decide⟩
  | 5, _, _ => exact ⟨by decide, by decide, by decide⟩
  | 6, _, _ => exact ⟨by decide, by decide, by decide⟩
  | 7, _, _ => exact ⟨by decide, by decide, by decide⟩
theorem u3f {l : List Int} {k : Int} (hl : Byt l) (hk : KG k) : ∀ i, KG (knK l k i)
  | 0 => hk
  | i + 1 => by
    obtain ⟨q, h1, h2, e⟩ := k84 (aY l i) (yW hl i)
    show KG (orI (knK l k i) (kbV (aY l i)))
    rw [e]; exact (u3f hl hk i).or h1 h2
theorem k8n {l : List Int} (h : Byt l) : KG (sH l) := by
  unfold sH bo1
  obtain ⟨q, h1, h2, e⟩ := k84 l h
  rw [e]; exact u3f (kF _ (kF _ h)) (KG.one h1 h2) _
def kgC : Bool := (List.range 127).all fun n => decide (jU (2 * (n : Int) + 2) = 0) && (List.range 7).any fun q => decide (odV ((2 * (n : Int) + 2) / ((2 ^ (q + 1) : Nat) : Int)) = 1)
theorem u3g : kgC = true := by kernel_rfl
theorem KG.ok {k : Int} (h : KG k) : (¬ k = 0 ∧ jU k = 0) ∧ ∃ q, 1 ≤ q ∧ q ≤ 7 ∧ kiB k q = true := by
  unfold KG at h
  obtain ⟨n, rfl⟩ : ∃ n : Nat, k = 2 * (n : Int) + 2 := ⟨((k - 2) / 2).toNat, by omega⟩
  have h1 := List.all_eq_true.1 u3g n (List.mem_range.2 (by omega))
  rw [Bool.and_eq_true, decide_eq_true_iff] at h1
  obtain ⟨q, hq, h2⟩ := List.any_eq_true.1 h1.2
  have hq := List.mem_range.1 hq
  exact ⟨⟨by omega, h1.1⟩, q + 1, by omega, by omega, decide_eq_true ⟨by omega, by omega, of_decide_eq_true h2⟩⟩
/-! sets -/
def SpB (l : List Int) (n : Nat) (lo hi : Int) : Prop := l.length = n * 2 ∧ ∀ p ∈ uI l, lo ≤ p.1 ∧ p.1 ≤ p.2 ∧ p.2 ≤ hi
theorem k5q (a b : Int) : uI [a, b] = [(a, b)] := rfl
theorem k7u {sp : List Int} {n : Nat} {lo hi : Int} (h : SpB sp n lo hi) (l : List Int) : ∀ i, i ≤ n → ∃ k, k ≤ i ∧ SpB (mW sp l i) k lo hi
  | 0, _ => ⟨0, Nat.le_refl _, rfl, fun p hp => by cases hp⟩
  | i + 1, hi_ => by
    obtain ⟨k, hk, hl, hb⟩ := k7u h l i zo
    rw [mW]; split
    · refine ⟨k + 1, by omega, by rw [List.length_append]; simp only [List.length_cons, List.length_nil]; omega, fun p hp => ?_⟩
      rw [pN hl] at hp
      rcases List.mem_append.1 hp with hp | hp
      · exact hb p hp
      · rw [List.mem_singleton.1 hp]; exact h.2 _ ((bL h.1).2 ⟨i, by omega, rfl⟩)
    · exact ⟨k, by omega, hl, hb⟩
theorem k7w {sp : List Int} {n : Nat} {lo hi : Int} (h : SpB sp n lo hi) (h1 : 1 ≤ n) (l : List Int) (hl : kB (qR l n) (n : Int) < n) : 1 ≤ yY sp l n ∧ yY sp l n ≤ n ∧ SpB (y1 sp l n) (yY sp l n) lo hi := by
  obtain ⟨k, hk, h2, h3⟩ := k7u h l n (Nat.le_refl _)
  by_cases e : mW sp l n = []
  · have e1 : y1 sp l n = [List.getD sp (kB (qR l n) (n : Int) * 2) 0, List.getD sp (kB (qR l n) (n : Int) * 2 + 1) 0] := if_pos e
    have e2 : yY sp l n = 1 := by simp [yY, e1]
    rw [e2, e1]
    refine ⟨Nat.le_refl _, h1, rfl, fun p hp => ?_⟩
    rw [k5q] at hp
    rw [List.mem_singleton.1 hp]; exact h.2 _ ((bL h.1).2 ⟨_, hl, rfl⟩)
  · have e1 : y1 sp l n = mW sp l n := if_neg e
    have e2 : yY sp l n = k := by unfold yY; rw [e1, h2]; omega
    have hk0 : k ≠ 0 := fun e3 => e (List.eq_nil_of_length_eq_zero (by omega))
    rw [e2, e1]
    exact ⟨by omega, hk, h2, h3⟩
theorem u00 {l : List Int} {n : Nat} (hl : l.length = n * 2) (hr : RG l n) (z : Int) : cX (uI (oY l)) z ↔ cX (uI l) z := by
  unfold oY; rw [tD]; exact (k26 (hr.v hl)).2.1 z
theorem k81 {l : List Int} {n : Nat} {lo hi : Int} (h : SpB l n lo hi) (h1 : 1 ≤ n) (h2 : n ≤ 64) (hlo : 0 ≤ lo) (hhi : hi ≤ 2147483647) : fT (bU l n) (yG l n) lo hi = true := by
  obtain ⟨hl, hb⟩ := h
  have hr : RG l n := k8q hl fun p hp => by have := hb p hp; unfold fZ; omega
  have hj := k85 hl hr
  obtain ⟨_, e1, e2⟩ := xK (iG.2 hr) zo
  have hva := k9y hl
  have hlen := tQ l
  have hok : jQ (uI (oY l)) := by rw [← e1]; exact k27 hl
  have hme : ∀ z, cX (uI (oY l)) z ↔ cX (uI l) z := u00 hl hr
  rw [e1, e2] at *
  have hsv : ∀ p ∈ uI (oY l), lo ≤ p.1 ∧ p.1 ≤ p.2 ∧ p.2 ≤ hi := fun p hp => by
    have hv := k1x hok p hp
    unfold fZ at hv
    obtain ⟨q, hq, q1⟩ := (hme p.1).1 ⟨p, hp, by omega⟩
    obtain ⟨r, hr_, r1⟩ := (hme p.2).1 ⟨p, hp, by omega⟩
    have b1 := hb q hq; have b2 := hb r hr_
    omega
  have hn : 1 ≤ iY l := by
    have hm : (List.getD l (0 * 2) 0, List.getD l (0 * 2 + 1) 0) ∈ uI l := (bL hl).2 ⟨0, by omega, rfl⟩
    have b1 := hb _ hm
    obtain ⟨q, hq, _⟩ := (hme (List.getD l (0 * 2) 0)).2 ⟨_, hm, by simp only at b1 ⊢; omega⟩
    have : 0 < (uI (oY l)).length := List.length_pos_of_mem hq
    rw [qU hlen] at this; exact this
  have f1 := hsv _ ((bL hlen).2 ⟨0, by omega, rfl⟩)
  have f2 := hsv _ ((bL hlen).2 ⟨iY l - 1, by omega, rfl⟩)
  exact u1g hva ⟨hn, f1.1, f2.2.2⟩
/-! maps -/
theorem u36 : ∀ m ∈ iU, jT m m.length = true := by decide
theorem k9w {l : List Int} (h : Byt l) : uL l ∈ iU := by
  have h2 := kQ l 7 h
  have h3 : kB l 7 < iU.length := by show _ < 7; omega
  unfold uL
  rw [List.getD_eq_getElem?_getD, List.getElem?_eq_getElem h3]; exact List.getElem_mem h3
theorem k91 {ms : List (List Int)} {m : List Int} (h : jO ms m = false) : m ∉ ms := fun hm => by
  have : jO ms m = true := List.any_eq_true.2 ⟨m, hm, decide_eq_true ⟨rfl, rfl⟩⟩
  rw [this] at h; cases h
def MsV (ms : List (List Int)) : Prop := (∀ m ∈ ms, jT m m.length = true) ∧ ms.Pairwise fun a b => a ≠ b
theorem u33 {l : List Int} (h : Byt l) : ∀ i, MsV (jR l i)
  | 0 => ⟨fun m hm => (by cases hm), List.Pairwise.nil⟩
  | i + 1 => by
    obtain ⟨h1, h2⟩ := u33 h i
    rw [jR]; split
    · exact ⟨h1, h2⟩
    · rename_i hn
      have hn : jO (jR l i) (uL (jS l i)) = false := by simpa using hn
      refine ⟨fun m hm => ?_, List.pairwise_append.2 ⟨h2, List.pairwise_singleton .., fun a ha b hb => ?_⟩⟩
      · rcases List.mem_append.1 hm with hm | hm
        · exact h1 m hm
        · rw [List.mem_singleton.1 hm]; exact u36 _ (k9w (eB h i))
      · rw [List.mem_singleton.1 hb]; intro e; exact k91 hn (e ▸ ha)
theorem u34 (l : List Int) : ∀ i, 1 ≤ i → 1 ≤ (jR l i).length
  | 0, h => absurd h (by decide)
  | i + 1, _ => by
    rw [jR]; split
    · rename_i hn
      cases e : jR l i with
      | nil => rw [e] at hn; cases hn
      | cons a r => rw [List.length_cons]; omega
    · rw [List.length_append, List.length_singleton]; omega
theorem u1i {ms : List (List Int)} (h : MsV ms) (h1 : 1 ≤ ms.length) (h2 : ms.length ≤ 16) : oU ms = true := by
  refine zB h1 h2 fun i hi => k7m ?_ ?_
  · rw [show List.getD ms i [] = ms[i] by rw [List.getD_eq_getElem?_getD, List.getElem?_eq_getElem hi]; rfl]
    exact h.1 _ (List.getElem_mem hi)
  · rw [show List.getD ms i [] = ms[i] by rw [List.getD_eq_getElem?_getD, List.getElem?_eq_getElem hi]; rfl]
    refine decide_eq_false fun hm => ?_
    obtain ⟨j, hj, e⟩ := List.mem_iff_getElem.1 hm
    rw [List.length_take] at hj
    rw [List.getElem_take] at e
    exact List.pairwise_iff_getElem.1 h.2 j i (by omega) hi (by omega) e
/-! boxes -/
theorem u5g : SpB rtT 5 1000 768000 := ⟨rfl, by decide⟩
theorem u56 : SpB szT 4 1 65536 := ⟨rfl, by decide⟩
theorem wI {l : List Int} {n : Nat} {lo hi : Int} (h : fT l n lo hi = true) : jN l n = true ∧ spS l n = l ∧ spN l n = n ∧ 1 ≤ n := by
  unfold fT at h
  rw [Bool.and_eq_true, decide_eq_true_iff] at h
  exact ⟨h.1, (u29 h.1).1, (u29 h.1).2, h.2.1⟩
theorem u1j {ms : List (List Int)} (h : oU ms = true) : 1 ≤ ms.length := (of_decide_eq_true h).1
attribute [local irreducible] y1 uZ yY bU yG kB kA uL jO aY jS jR knK fT oU
theorem u0v {l : List Int} (h : Byt l) : fP (boX l).k (boX l).r (boX l).rn (boX l).m (boX l).s (boX l).sn = true := by
  have b1 : Byt (bo1 l) := kF _ (kF _ h)
  have b2 : Byt (bo2 l) := yW b1 _
  have b3 : Byt (bo3 l) := y8 b2
  have b4 : Byt (bo4 l) := y8 b3
  have b5 : Byt (bo5 l) := kF _ b4
  have n1 := kQ (qR (bo2 l) 5) 5 (yF b2 5)
  have n2 := kQ (qR (bo3 l) 4) 4 (yF b3 4)
  have n3 := kQ (bo4 l) 3 b4
  obtain ⟨r1, r2, r3⟩ := k7w u5g (by decide) (bo2 l) (by show kB _ 5 < 5; omega)
  obtain ⟨s1, s2, s3⟩ := k7w u56 (by decide) (bo3 l) (by show kB _ 4 < 4; omega)
  have m1 := u34 (bo5 l) (boN l) (by unfold boN; omega)
  have m2 := tO (bo5 l) (boN l)
  have m3 : boN l ≤ 3 := by unfold boN; omega
  show fP (sH l) (sG l) (o9 l) (gC l) (sF l) (o8 l) = true
  unfold sG o9 gC sF o8
  exact u3v (k8n h).ok.1 (k81 r3 r1 (by omega) (by decide) (by decide)) (u1i (u33 b5 _) m1 (by omega)) (k81 s3 s1 (by omega) (by decide) (by decide))
def BxV (b : Bx) : Prop := BxW b ∧ KG b.k ∧ fP b.k b.r b.rn b.m b.s b.sn = true
def BsV (bs : List Bx) : Prop := ∀ b ∈ bs, BxV b
theorem sC {k : Int} {r : List Int} {rn : Nat} {m : List (List Int)} {s : List Int} {sn : Nat} (h : fP k r rn m s sn = true) : (¬ k = 0 ∧ jU k = 0) ∧ fT r rn 1000 768000 = true ∧ oU m = true ∧ fT s sn 1 65536 = true := by
  unfold fP at h
  rw [Bool.and_eq_true, Bool.and_eq_true, Bool.and_eq_true, decide_eq_true_iff] at h
  exact h
theorem BxV.g {b : Bx} (h : BxV b) : BxG b := by
  obtain ⟨h1, h2, h3⟩ := h
  obtain ⟨_, p2, p3, p4⟩ := sC h3
  obtain ⟨_, _, r3, r4⟩ := wI p2
  obtain ⟨_, _, s3, s4⟩ := wI p4
  exact ⟨h1, by omega, by omega, u1j p3, h2.ok.2⟩
theorem BsV.g {bs : List Bx} (h : BsV bs) : BsG bs := fun b hb => (h b hb).g
theorem BsV.w {bs : List Bx} (h : BsV bs) : BsW bs := fun b hb => (h b hb).1
theorem BsV.vb {bs : List Bx} (h : BsV bs) (hn : bs.length ≤ 64) : mM bs = true := u1n hn fun i hi => (h _ (eO hi)).2.2
theorem BsV.eq {bs : List Bx} (h : BsV bs) (hn : bs.length ≤ 64) : bxL bs = bs := u3w (h.vb hn)
theorem BsV.nil : BsV [] := fun b hb => by cases hb
theorem BsV.app {a b : List Bx} (h : BsV a) (h2 : BsV b) : BsV (a ++ b) := fun m hm => (List.mem_append.1 hm).elim (h m) (h2 m)
theorem BsV.one {b : Bx} (h : BxV b) : BsV [b] := fun m hm => by rw [List.mem_singleton.1 hm]; exact h
theorem BsV.box {xs : List Bx} (h : BsV xs) {i : Nat} (hi : i < xs.length) : BxV (cN (bB xs i) (bY xs i) (vJ xs i) (y3 xs i) (dP xs i) (bA xs i)) := h _ (eO hi)
theorem k8o {l : List Int} (h : Byt l) : ∀ i, BsV (bbL l i)
  | 0 => BsV.nil
  | i + 1 => (k8o h i).app (BsV.one ⟨k8m _, k8n (eQ h i), u0v (eQ h i)⟩)
end Go.Proofs.Ytalbpleglapihaa
namespace Go.Proofs.Ytalbpleglapihaa
open Go.ChangeShapes Go.WideShapes Go.ChangeAt Go.RowKit
set_option linter.unusedVariables false
set_option linter.unusedSimpArgs false
/-! chapter 11: sums of bytes -/
set_option maxHeartbeats 4000000
set_option maxRecDepth 100000
def vM (a b : Int) : Int := qM .xor .u32 a b
def wB (a : Int) : Int := qM .and .u32 a 1
theorem k0g (a b : Int) : qM .xor .u32 a b = vM a b := rfl
theorem u42 (a : Int) : qM .and .u32 a 1 = wB a := rfl
theorem k0f (a b : Int) : vM a b = ((BitVec.ofInt 32 a ^^^ BitVec.ofInt 32 b).toNat : Int) := by
  show IntKind.u32.wrap _ = _
  exact vE (by simp only [oZ]; have := (BitVec.ofInt 32 a ^^^ BitVec.ofInt 32 b).isLt; exact ⟨by omega, by show (((BitVec.ofInt 32 a ^^^ BitVec.ofInt 32 b).toNat : Nat) : Int) ≤ 4294967295; omega⟩)
theorem y5 (a b : Int) : 0 ≤ vM a b ∧ vM a b ≤ 4294967295 := by
  rw [k0f]; have := (BitVec.ofInt 32 a ^^^ BitVec.ofInt 32 b).isLt; omega
def yL (r : Int) : Nat → Int
  | 0 => r
  | k + 1 => if wB (yL r k) = 1 then vM (yL r k / 2) 3988292384 else yL r k / 2
theorem b9 {r z : Int} {k : Nat} (h : yL r k = z) (h1 : wB z = 1) : yL r (k + 1) = vM (z / 2) 3988292384 := by subst h; exact if_pos h1
theorem cA {r z : Int} {k : Nat} (h : yL r k = z) (h1 : ¬ wB z = 1) : yL r (k + 1) = z / 2 := by subst h; exact if_neg h1
def gG (l : List Int) : Nat → Int
  | 0 => 4294967295
  | k + 1 => yL (vM (gG l k) (List.getD l k 0)) 8
theorem k12 {l : List Int} {y z : Int} {k : Nat} (h : gG l k = y) (h1 : yL (vM y (List.getD l k 0)) 8 = z) : gG l (k + 1) = z := by subst h; exact h1
theorem u5d (l : List Int) : gG l 0 = 4294967295 := rfl
theorem u5y (x : Int) : yL x 0 = x := rfl
def kY (l : List Int) : Int := vM 4294967295 (gG l l.length)
theorem gF (l : List Int) : 0 ≤ kY l ∧ kY l ≤ 4294967295 := y5 _ _
theorem k93 {l : List Int} {y : Int} {k m : Nat} (hm : l.length = m) (hk : k = m) (h : gG l k = y) : vM 4294967295 y = kY l := by subst hk; subst hm; subst h; rfl
attribute [local irreducible] yL gG kY vM wB
theorem gZ {p : Prop} (h : p := by first | omega | assumption | simp) : p := h
theorem k52 (l : List Int) (m : Nat) (hm : List.length l = m) (hb : m ≤ 1000000) (hy : Byt l) : Fun 21 [.c (.d (D.sl (dI .u8 l) m))] (kG []) 0 (kT (D.lit (.int .u32 (kY l)))) (kG []) 0 := by
  refine Fun.mk (n := 31) Try.func21 rfl rfl (Nat.le_of_ble_eq_true rfl) ?_
  intro cx hcx
  refine kK [.no] True [(0, sV .u8 l m)] [] 0 trivial ?_
  refine kX [.no] True [(0, sV .u8 l m), (3, kT (D.lit (.int .u32 4294967295)))] trivial ?_
  refine AW.seq ?_
  refine kX [.no, .no, .no] True [(3, kT (D.lit (.int .u32 4294967295))), (7, sV .u8 l m), (8, uV m), (9, iV 0)] trivial ?_
  refine AW.block ?_
  refine kW 0 hcx (fun (x : {x : Nat × Int // match x with | (k, y) => (k ≤ m) ∧ (gG l k = y) ∧ (0 ≤ y ∧ y ≤ 4294967295)}) => match x with | ⟨(k, y), _⟩ => (⟨[(3, kT (D.lit (.int .u32 y))), (7, sV .u8 l m), (8, uV m), (9, uV k)], [], 0⟩ : ES)) (fun x => match x with | ⟨(k, y), _⟩ => m - k) ⟨((0 : Nat), (4294967295 : Int)), ⟨gZ, (u5d _), zo⟩⟩ [] (P := (kM 4294967295) ∧ (k8 (dI .u8 l)) ∧ (kN m) ∧ (kM (m : Int)) ∧ (kM 0)) zk ⟨rfl, rfl, rfl, rfl, rfl⟩ ?_
  rintro ⟨⟨k, y⟩, hinv0⟩
  obtain ⟨hk, hv, hr⟩ : (k ≤ m) ∧ (gG l k = y) ∧ (0 ≤ y ∧ y ≤ 4294967295) := hinv0
  refine uH (l := [(3, kT (D.lit (.int .u32 y))), (7, sV .u8 l m), (8, uV m), (9, uV k)]) (g := []) (nx := 0) rfl rfl rfl ?_
  by_cases hx1 : (((k : Nat) : Int) < ((m : Nat) : Int))
  · refine zr [.b true] [3, 7, 8, 9, 10] [] (((k : Int) < (m : Int))) [(3, kT (D.lit (.int .u32 y))), (7, sV .u8 l m), (8, uV m), (9, uV k), (10, bV true)] [] 0 zo ?_
    refine AW.seq ?_
    refine vD ?_
    refine AW.seq ?_
    refine AW.block ?_
    have hx2 : 0 ≤ (List.getD l k 0) ∧ (List.getD l k 0) ≤ 255 := (kP : Byt l).at _ (by first | omega | (simp only [kR, kO, pbL_len, List.length_append, List.length_cons, List.length_nil, List.length_take, List.length_drop, List.length_replicate, List.length_set] <;> omega))
    refine kK [.n k, .d (D.lit (.int .u8 (List.getD l k 0))), .no] ((kM (k : Int)) ∧ (k < m) ∧ ((List.drop k (dI .u8 l))[0]? = some (D.lit (.int .u8 (List.getD l k 0))))) [(3, kT (D.lit (.int .u32 y))), (5, kT (D.lit (.int .u8 (List.getD l k 0)))), (7, sV .u8 l m), (8, uV m), (9, uV k)] [] 0 ⟨rfl, zo, (qQ _ _ _ (by first | omega | (simp only [kR, kO, pbL_len, qK, List.length_append, List.length_cons, List.length_nil, List.length_take, List.length_drop, List.length_replicate, List.length_set, List.length_map, List.length_reverse, Nat.mul_one] <;> omega) | rfl))⟩ ?_
    have hx3 : 0 ≤ (vM y (List.getD l k 0)) ∧ (vM y (List.getD l k 0)) ≤ 4294967295 := y5 _ _
    refine kX [.no, .no, .w, .i (vM y (List.getD l k 0)), .no] ((0 ≤ (List.getD l k 0) ∧ (List.getD l k 0) ≤ 4294967295) ∧ (qM .xor .u32 y (List.getD l k 0) = (vM y (List.getD l k 0)))) [(3, kT (D.lit (.int .u32 (vM y (List.getD l k 0))))), (7, sV .u8 l m), (8, uV m), (9, uV k)] ⟨⟨by omega, by omega⟩, (k0g _ _)⟩ ?_
    refine kX [.no] True [(3, kT (D.lit (.int .u32 (vM y (List.getD l k 0))))), (7, sV .u8 l m), (8, uV m), (9, uV k), (17, iV 0)] trivial ?_
    refine AW.block ?_
    refine kW 0 hcx (fun (x : {x : Nat × Int // match x with | (j, z) => (j ≤ 8) ∧ (yL (vM y (List.getD l k 0)) j = z) ∧ (0 ≤ z ∧ z ≤ 4294967295)}) => match x with | ⟨(j, z), _⟩ => (⟨[(3, kT (D.lit (.int .u32 z))), (7, sV .u8 l m), (8, uV m), (9, uV k), (17, uV j)], [], 0⟩ : ES)) (fun x => match x with | ⟨(j, z), _⟩ => 8 - j) ⟨((0 : Nat), ((vM y (List.getD l k 0)) : Int)), ⟨gZ, (u5y _), (y5 _ _)⟩⟩ [] (P := (kM (vM y (List.getD l k 0))) ∧ (k8 (dI .u8 l)) ∧ (kN m) ∧ (kM (m : Int)) ∧ (kM (k : Int)) ∧ (kM 0)) zk ⟨rfl, rfl, rfl, rfl, rfl, rfl⟩ ?_
    rintro ⟨⟨j, z⟩, hinv1⟩
    obtain ⟨hj, hz, hs⟩ : (j ≤ 8) ∧ (yL (vM y (List.getD l k 0)) j = z) ∧ (0 ≤ z ∧ z ≤ 4294967295) := hinv1
    refine uH (l := [(3, kT (D.lit (.int .u32 z))), (7, sV .u8 l m), (8, uV m), (9, uV k), (17, uV j)]) (g := []) (nx := 0) rfl rfl rfl ?_
    by_cases hx4 : (((j : Nat) : Int) < 8)
    · refine zr [.b true] [3, 7, 8, 9, 17, 18] [] (((j : Int) < 8)) [(3, kT (D.lit (.int .u32 z))), (7, sV .u8 l m), (8, uV m), (9, uV k), (17, uV j), (18, bV true)] [] 0 zo ?_
      refine AW.seq ?_
      refine vD ?_
      refine AW.seq ?_
      refine AW.block ?_
      refine kK [.no, .i (wB z), .no] (qM .and .u32 z 1 = (wB z)) [(3, kT (D.lit (.int .u32 z))), (6, kT (D.lit (.int .u32 (wB z)))), (7, sV .u8 l m), (8, uV m), (9, uV k), (17, uV j)] [] 0 (u42 _) ?_
      refine kX [.no, .n 1, .no] ((kM 1) ∧ ((1 : Nat) ≤ 32)) [(3, kT (D.lit (.int .u32 (z / 2)))), (6, kT (D.lit (.int .u32 (wB z)))), (7, sV .u8 l m), (8, uV m), (9, uV k), (17, uV j)] ⟨rfl, zo⟩ ?_
      by_cases hx5 : ((wB z) = 1)
      · refine zr [.no, .b true] [3, 7, 8, 9, 17, 24] [] (((wB z) = 1)) [(3, kT (D.lit (.int .u32 (z / 2)))), (7, sV .u8 l m), (8, uV m), (9, uV k), (17, uV j), (24, bV true)] [] 0 zo ?_
        refine zt ?_
        have hx6 : 0 ≤ (vM (z / 2) 3988292384) ∧ (vM (z / 2) 3988292384) ≤ 4294967295 := y5 _ _
        refine cB [.no, .i (vM (z / 2) 3988292384), .no] (qM .xor .u32 (z / 2) 3988292384 = (vM (z / 2) 3988292384)) [(3, kT (D.lit (.int .u32 (vM (z / 2) 3988292384)))), (7, sV .u8 l m), (8, uV m), (9, uV k), (17, uV j)] [] 0 (k0g _ _) ?_
        refine yD [.w, .no] (qL ((j : Int) + 1)) [(3, kT (D.lit (.int .u32 (vM (z / 2) 3988292384)))), (7, sV .u8 l m), (8, uV m), (9, uV k), (17, iV (↑j + 1))] ⟨by omega, by omega⟩ ?_
        exact qS ⟨(((j + 1) : Nat), ((vM (z / 2) 3988292384) : Int)), ⟨gZ, (by first | exact b9 hz (by assumption) | exact cA hz (by assumption)), (by first | exact y5 _ _ | omega)⟩⟩ [] (P := (kM (vM (z / 2) 3988292384)) ∧ (k8 (dI .u8 l)) ∧ (kN m) ∧ (kM (m : Int)) ∧ (kM (k : Int)) ∧ (q1S j)) zk ⟨rfl, rfl, rfl, rfl, rfl, (by first | rfl | omega | assumption | (simp; done) | (simp; omega))⟩ (show 8 - (j + 1) < 8 - j from (by first | omega | (show _ < _; simp; omega)))
      · refine zr [.no, .b false] [3, 7, 8, 9, 17, 24] [] (¬ ((wB z) = 1)) [(3, kT (D.lit (.int .u32 (z / 2)))), (7, sV .u8 l m), (8, uV m), (9, uV k), (17, uV j), (24, bV false)] [] 0 zo ?_
        refine yM ?_
        refine cB [.w, .no] (qL ((j : Int) + 1)) [(3, kT (D.lit (.int .u32 (z / 2)))), (7, sV .u8 l m), (8, uV m), (9, uV k), (17, iV (↑j + 1))] [] 0 ⟨by omega, by omega⟩ ?_
        exact qS ⟨(((j + 1) : Nat), ((z / 2) : Int)), ⟨gZ, (by first | exact b9 hz (by assumption) | exact cA hz (by assumption)), (by first | exact y5 _ _ | omega)⟩⟩ [] (P := (kM (z / 2)) ∧ (k8 (dI .u8 l)) ∧ (kN m) ∧ (kM (m : Int)) ∧ (kM (k : Int)) ∧ (q1S j)) zk ⟨rfl, rfl, rfl, rfl, rfl, (by first | rfl | omega | assumption | (simp; done) | (simp; omega))⟩ (show 8 - (j + 1) < 8 - j from (by first | omega | (show _ < _; simp; omega)))
    · refine zr [.b false] [3, 7, 8, 9, 17, 18] [] (¬ ((j : Int) < 8)) [(3, kT (D.lit (.int .u32 z))), (7, sV .u8 l m), (8, uV m), (9, uV k), (17, uV j), (18, bV false)] [] 0 zo ?_
      refine AW.seq ?_
      refine zf ?_
      refine AW.exit ?_
      refine cB [.w, .no] (qL ((k : Int) + 1)) [(3, kT (D.lit (.int .u32 z))), (7, sV .u8 l m), (8, uV m), (9, iV (↑k + 1))] [] 0 ⟨by omega, by omega⟩ ?_
      exact qS ⟨(((k + 1) : Nat), (z : Int)), ⟨gZ, (k12 hv (by first | assumption | (rw [show (8 : Nat) = j by omega]; assumption))), (by assumption)⟩⟩ [] (P := (kM z) ∧ (k8 (dI .u8 l)) ∧ (kN m) ∧ (kM (m : Int)) ∧ (q1S k)) zk ⟨rfl, rfl, rfl, rfl, (by first | rfl | omega | assumption | (simp; done) | (simp; omega))⟩ (show m - (k + 1) < m - k from (by first | omega | (show _ < _; simp; omega)))
  · refine zr [.b false] [3, 7, 8, 9, 10] [] (¬ ((k : Int) < (m : Int))) [(3, kT (D.lit (.int .u32 y))), (7, sV .u8 l m), (8, uV m), (9, uV k), (10, bV false)] [] 0 zo ?_
    refine AW.seq ?_
    refine zf ?_
    refine AW.exit ?_
    have hx7 : 0 ≤ (vM 4294967295 y) ∧ (vM 4294967295 y) ≤ 4294967295 := y5 _ _
    refine kK [.no, .i (vM 4294967295 y), .no] (qM .xor .u32 4294967295 y = (vM 4294967295 y)) [(2, kT (D.lit (.int .u32 (vM 4294967295 y))))] [] 0 (k0g _ _) ?_
    refine AW.ret ?_
    exact kC (.inr rfl) [] (P := (((kY l) : Int) = (vM 4294967295 y))) zk (by first | omega | exact k93 hm zo hv | exact (k93 hm zo hv).symm)
end Go.Proofs.Ytalbpleglapihaa
