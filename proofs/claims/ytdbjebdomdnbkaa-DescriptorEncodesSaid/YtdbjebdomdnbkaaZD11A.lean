/- Merged texts. -/
import Derived.Test.YtdbjebdomdnbkaaZL10F
import Derived.Test.YtdbjebdomdnbkaaZL10M
import Derived.Test.YtdbjebdomdnbkaaZLWi
namespace Go.Proofs.Ytdbjebdomdnbkaa
open Go.ChangeShapes Go.WideShapes Go.ChangeAt Go.RowKit
set_option linter.unusedVariables false
set_option linter.unusedSimpArgs false
attribute [local irreducible] v4 yI vW dR vC kB kA uT mT cQ mX mW
def vX (k : Int) (r : List Int) (rn : Nat) (m : List (List Int)) (s : List Int) (sn : Nat) : Bx := ⟨k, r, rn, m, s, sn⟩
theorem jY (xs : List Bx) (k : Int) (r : List Int) (rn : Nat) (m : List (List Int)) (c : Nat) (s : List Int) (sn : Nat) (h : m.length = c) : kR xs ++ [D.lit (.int .i64 k), D.sl (dI .i64 r) rn, D.sl (kY m) c, D.sl (dI .i64 s) sn] = kR (xs ++ [vX k r rn m s sn]) := by
 subst h; rw [k0v]; rfl
def boX (l : List Int) : Bx := vX (jD l) (jC l) (iZ l) (dV l) (jB l) (iY l)
def qS (l : List Int) : Nat → List Int
 | 0 => l
 | i + 1 => sE (qS l i)
def bbL (l : List Int) : Nat → List Bx
 | 0 => []
 | i + 1 => bbL l i ++ [boX (qS l i)]
theorem k98 {l : List Int} (h : Byt l) : Byt (sE l) := by
 unfold sE bo5 bo4 bo3 bo2 bo1
 exact gJ (kE _ (v9 (v9 (vT (kE _ (kE _ h)) _)))) _
theorem fD {l : List Int} (h : Byt l) : ∀ i, Byt (qS l i)
 | 0 => h
 | i + 1 => k98 (fD h i)
theorem k3v (l : List Int) : 1 + kB l 3 ≤ 1000000 := by
 by_cases h : l.length = 0 ∨ (3 : Int) ≤ 1
 ·have := cN h; omega
 ·have h1 : kB l 3 = (List.getD l 0 0 % 3).toNat := by unfold kB; exact if_neg h
  have := Int.emod_lt_of_pos (List.getD l 0 0) (b := 3) (by omega)
  omega
theorem u0n (l : List Int) : BxW (boX l) := by
 have h1 := l6 (v4 rtT (bo2 l) 5) (vW rtT (bo2 l) 5)
 have h2 := l6 (v4 szT (bo3 l) 4) (vW szT (bo3 l) 4)
 have h3 := xM (bo5 l) (boN l)
 have h5 := k3v (bo4 l)
 show List.length (jC l) = iZ l * 2 ∧ List.length (jB l) = iY l * 2 ∧ iZ l ≤ 1000000 ∧ iY l ≤ 1000000 ∧ List.length (dV l) ≤ 1000000 ∧ MsW (dV l)
 unfold jC iZ jB iY dV
 refine ⟨gL _ _, gL _ _, ?_, ?_, ?_, k3x _ _⟩
 ·exact Nat.le_trans h1.2 (by omega)
 ·exact Nat.le_trans h2.2 (by omega)
 ·exact Nat.le_trans h3 h5
theorem jZ (l : List Int) : ∀ i, List.length (bbL l i) = i
 | 0 => rfl
 | i + 1 => by rw [bbL, List.length_append, jZ l i]; rfl
theorem mM (l : List Int) : ∀ i, BsW (bbL l i)
 | 0 => BsW.nil
 | i + 1 => (mM l i).app (BsW.one (u0n _))
theorem u6i {l : List Int} {i : Nat} {bs : List Bx} (h : bbL l i = bs) : bbL l (i + 1) = bs ++ [vX (jD (qS l i)) (jC (qS l i)) (iZ (qS l i)) (dV (qS l i)) (jB (qS l i)) (iY (qS l i))] := by
 subst h; rfl
theorem BsW.box {xs : List Bx} (h : BsW xs) (i : Nat) : BxW (vX (vK xs i) (vH xs i) (uM xs i) (kW xs i) (aG xs i) (yW xs i)) := h.get i
end Go.Proofs.Ytdbjebdomdnbkaa
namespace Go.Proofs.Ytdbjebdomdnbkaa
open Go.ChangeShapes Go.WideShapes Go.ChangeAt Go.RowKit
set_option linter.unusedVariables false
set_option linter.unusedSimpArgs false
def BxG (b : Bx) : Prop := BxW b ∧ 1 ≤ spN b.r b.rn ∧ 1 ≤ spN b.s b.sn ∧ 1 ≤ List.length b.m ∧ ∃ q, 1 ≤ q ∧ q ≤ 7 ∧ kiB b.k q = true
def BsG (bs : List Bx) : Prop := ∀ b ∈ bs, BxG b
theorem fB {bs : List Bx} {i : Nat} (h : i < bs.length) : vZ bs i ∈ bs := by
  unfold vZ; rw [List.getD_eq_getElem?_getD, List.getElem?_eq_getElem h]; exact List.getElem_mem _
end Go.Proofs.Ytdbjebdomdnbkaa
namespace Go.Proofs.Ytdbjebdomdnbkaa
open Go.ChangeShapes Go.WideShapes Go.ChangeAt Go.RowKit
set_option linter.unusedVariables false
set_option linter.unusedSimpArgs false
/-! chapter 10: boxes out of dice are valid -/
theorem u04 (l : List Int) (h : Byt l) : ∃ q : Nat, 1 ≤ q ∧ q ≤ 7 ∧ kbV l = ((2 ^ q : Nat) : Int) := by
  have h2 := kO l 7 h
  refine ⟨1 + kB l 7, by omega, by omega, ?_⟩
  unfold kbV
  have h3 : kB l 7 < 7 := by omega
  generalize kB l 7 = n at *
  match n, h3 with
  | 0, _ => rfl
  | 1, _ => rfl
  | 2, _ => rfl
  | 3, _ => rfl
  | 4, _ => rfl
  | 5, _ => rfl
  | 6, _ => rfl
def KG (k : Int) : Prop := 2 ≤ k ∧ k ≤ 254 ∧ k % 2 = 0
def orC : Bool := (List.range 127).all fun n => (List.range 7).all fun q => decide (2 ≤ orI (2 * (n : Int) + 2) ((2 ^ (q + 1) : Nat) : Int) ∧ orI (2 * (n : Int) + 2) ((2 ^ (q + 1) : Nat) : Int) ≤ 254 ∧ orI (2 * (n : Int) + 2) ((2 ^ (q + 1) : Nat) : Int) % 2 = 0)
theorem u5e : orC = true := by kernel_rfl
theorem KG.or {k : Int} (h : KG k) {q : Nat} (h1 : 1 ≤ q) (h2 : q ≤ 7) : KG (orI k ((2 ^ q : Nat) : Int)) := by
  unfold KG at h
  obtain ⟨n, rfl⟩ : ∃ n : Nat, k = 2 * (n : Int) + 2 := ⟨((k - 2) / 2).toNat, by omega⟩
  obtain ⟨r, rfl⟩ : ∃ r, q = r + 1 := ⟨q - 1, by omega⟩
  have h9 := List.all_eq_true.1 (List.all_eq_true.1 u5e n (List.mem_range.2 (by omega))) r (List.mem_range.2 (by omega))
  have h8 := of_decide_eq_true h9
  exact h8
theorem KG.one {q : Nat} (h1 : 1 ≤ q) (h2 : q ≤ 7) : KG ((2 ^ q : Nat) : Int) := by
  match q, h1, h2 with
  | 1, _, _ => exact ⟨by decide, by decide, by decide⟩
  | 2, _, _ => exact ⟨by decide, by decide, by decide⟩
  | 3, _, _ => exact ⟨by decide, by decide, by decide⟩
  | 4, _, _ => exact ⟨by decide, by decide, by decide⟩
  | 5, _, _ => exact ⟨by decide, by decide, by decide⟩
  | 6, _, _ => exact ⟨by decide, by decide, by decide⟩
  | 7, _, _ => exact ⟨by decide, by decide, by decide⟩
theorem u5v {l : List Int} {k : Int} (hl : Byt l) (hk : KG k) : ∀ i, KG (knK l k i)
  | 0 => hk
  | i + 1 => by
    obtain ⟨q, h1, h2, e⟩ := u04 (cQ l i) (vT hl i)
    show KG (orI (knK l k i) (kbV (cQ l i)))
    rw [e]; exact (u5v hl hk i).or h1 h2
theorem u0o {l : List Int} (h : Byt l) : KG (jD l) := by
  unfold jD bo1
  obtain ⟨q, h1, h2, e⟩ := u04 l h
  rw [e]; exact u5v (kE _ (kE _ h)) (KG.one h1 h2) _
def kgC : Bool := (List.range 127).all fun n => decide (dX (2 * (n : Int) + 2) = 0) && (List.range 7).any fun q => decide (odV ((2 * (n : Int) + 2) / ((2 ^ (q + 1) : Nat) : Int)) = 1)
theorem u5x : kgC = true := by kernel_rfl
theorem KG.ok {k : Int} (h : KG k) : (¬ k = 0 ∧ dX k = 0) ∧ ∃ q, 1 ≤ q ∧ q ≤ 7 ∧ kiB k q = true := by
  unfold KG at h
  obtain ⟨n, rfl⟩ : ∃ n : Nat, k = 2 * (n : Int) + 2 := ⟨((k - 2) / 2).toNat, by omega⟩
  have h1 := List.all_eq_true.1 u5x n (List.mem_range.2 (by omega))
  rw [Bool.and_eq_true, decide_eq_true_iff] at h1
  obtain ⟨q, hq, h2⟩ := List.any_eq_true.1 h1.2
  have hq := List.mem_range.1 hq
  exact ⟨⟨by omega, h1.1⟩, q + 1, by omega, by omega, decide_eq_true ⟨by omega, by omega, of_decide_eq_true h2⟩⟩
/-! sets -/
def SpB (l : List Int) (n : Nat) (lo hi : Int) : Prop := l.length = n * 2 ∧ ∀ p ∈ uO l, lo ≤ p.1 ∧ p.1 ≤ p.2 ∧ p.2 ≤ hi
theorem k7m (a b : Int) : uO [a, b] = [(a, b)] := rfl
theorem k9w {sp : List Int} {n : Nat} {lo hi : Int} (h : SpB sp n lo hi) (l : List Int) : ∀ i, i ≤ n → ∃ k, k ≤ i ∧ SpB (pM sp l i) k lo hi
  | 0, _ => ⟨0, Nat.le_refl _, rfl, fun p hp => by cases hp⟩
  | i + 1, hi_ => by
    obtain ⟨k, hk, hl, hb⟩ := k9w h l i zo
    rw [pM]; split
    · refine ⟨k + 1, by omega, by rw [List.length_append]; simp only [List.length_cons, List.length_nil]; omega, fun p hp => ?_⟩
      rw [tC hl] at hp
      rcases List.mem_append.1 hp with hp | hp
      · exact hb p hp
      · rw [List.mem_singleton.1 hp]; exact h.2 _ ((dA h.1).2 ⟨i, by omega, rfl⟩)
    · exact ⟨k, by omega, hl, hb⟩
theorem k9y {sp : List Int} {n : Nat} {lo hi : Int} (h : SpB sp n lo hi) (h1 : 1 ≤ n) (l : List Int) (hl : kB (qY l n) (n : Int) < n) : 1 ≤ vW sp l n ∧ vW sp l n ≤ n ∧ SpB (v4 sp l n) (vW sp l n) lo hi := by
  obtain ⟨k, hk, h2, h3⟩ := k9w h l n (Nat.le_refl _)
  by_cases e : pM sp l n = []
  · have e1 : v4 sp l n = [List.getD sp (kB (qY l n) (n : Int) * 2) 0, List.getD sp (kB (qY l n) (n : Int) * 2 + 1) 0] := if_pos e
    have e2 : vW sp l n = 1 := by simp [vW, e1]
    rw [e2, e1]
    refine ⟨Nat.le_refl _, h1, rfl, fun p hp => ?_⟩
    rw [k7m] at hp
    rw [List.mem_singleton.1 hp]; exact h.2 _ ((dA h.1).2 ⟨_, hl, rfl⟩)
  · have e1 : v4 sp l n = pM sp l n := if_neg e
    have e2 : vW sp l n = k := by unfold vW; rw [e1, h2]; omega
    have hk0 : k ≠ 0 := fun e3 => e (List.eq_nil_of_length_eq_zero (by omega))
    rw [e2, e1]
    exact ⟨by omega, hk, h2, h3⟩
theorem u24 {l : List Int} {n : Nat} (hl : l.length = n * 2) (hr : RG l n) (z : Int) : eW (uO (sU l)) z ↔ eW (uO l) z := by
  unfold sU; rw [xC]; exact (k3y (hr.v hl)).2.1 z
theorem u02 {l : List Int} {n : Nat} {lo hi : Int} (h : SpB l n lo hi) (h1 : 1 ≤ n) (h2 : n ≤ 64) (hlo : 0 ≤ lo) (hhi : hi ≤ 2147483647) : eS (dR l n) (vC l n) lo hi = true := by
  obtain ⟨hl, hb⟩ := h
  have hr : RG l n := u0t hl fun p hp => by have := hb p hp; unfold jG; omega
  have hj := u05 hl hr
  obtain ⟨_, e1, e2⟩ := k0g (lS.2 hr) zo
  have hva := u22 hl
  have hlen := xO l
  have hok : mV (uO (sU l)) := by rw [← e1]; exact k3z hl
  have hme : ∀ z, eW (uO (sU l)) z ↔ eW (uO l) z := u24 hl hr
  rw [e1, e2] at *
  have hsv : ∀ p ∈ uO (sU l), lo ≤ p.1 ∧ p.1 ≤ p.2 ∧ p.2 ≤ hi := fun p hp => by
    have hv := k3q hok p hp
    unfold jG at hv
    obtain ⟨q, hq, q1⟩ := (hme p.1).1 ⟨p, hp, by omega⟩
    obtain ⟨r, hr_, r1⟩ := (hme p.2).1 ⟨p, hp, by omega⟩
    have b1 := hb q hq; have b2 := hb r hr_
    omega
  have hn : 1 ≤ l9 l := by
    have hm : (List.getD l (0 * 2) 0, List.getD l (0 * 2 + 1) 0) ∈ uO l := (dA hl).2 ⟨0, by omega, rfl⟩
    have b1 := hb _ hm
    obtain ⟨q, hq, _⟩ := (hme (List.getD l (0 * 2) 0)).2 ⟨_, hm, by simp only at b1 ⊢; omega⟩
    have : 0 < (uO (sU l)).length := List.length_pos_of_mem hq
    rw [uR hlen] at this; exact this
  have f1 := hsv _ ((dA hlen).2 ⟨0, by omega, rfl⟩)
  have f2 := hsv _ ((dA hlen).2 ⟨l9 l - 1, by omega, rfl⟩)
  exact u3t hva ⟨hn, f1.1, f2.2.2⟩
/-! maps -/
theorem u5n : ∀ m ∈ l5, f9 m m.length = true := by decide
theorem u20 {l : List Int} (h : Byt l) : uT l ∈ l5 := by
  have h2 := kO l 7 h
  have h3 : kB l 7 < l5.length := by show _ < 7; omega
  unfold uT
  rw [List.getD_eq_getElem?_getD, List.getElem?_eq_getElem h3]; exact List.getElem_mem h3
theorem u1a {ms : List (List Int)} {m : List Int} (h : mT ms m = false) : m ∉ ms := fun hm => by
  have : mT ms m = true := List.any_eq_true.2 ⟨m, hm, decide_eq_true ⟨rfl, rfl⟩⟩
  rw [this] at h; cases h
def MsV (ms : List (List Int)) : Prop := (∀ m ∈ ms, f9 m m.length = true) ∧ ms.Pairwise fun a b => a ≠ b
theorem u5k {l : List Int} (h : Byt l) : ∀ i, MsV (mW l i)
  | 0 => ⟨fun m hm => (by cases hm), List.Pairwise.nil⟩
  | i + 1 => by
    obtain ⟨h1, h2⟩ := u5k h i
    rw [mW]; split
    · exact ⟨h1, h2⟩
    · rename_i hn
      have hn : mT (mW l i) (uT (mX l i)) = false := by simpa using hn
      refine ⟨fun m hm => ?_, List.pairwise_append.2 ⟨h2, List.pairwise_singleton .., fun a ha b hb => ?_⟩⟩
      · rcases List.mem_append.1 hm with hm | hm
        · exact h1 m hm
        · rw [List.mem_singleton.1 hm]; exact u5n _ (u20 (gJ h i))
      · rw [List.mem_singleton.1 hb]; intro e; exact u1a hn (e ▸ ha)
theorem u5l (l : List Int) : ∀ i, 1 ≤ i → 1 ≤ (mW l i).length
  | 0, h => absurd h (by decide)
  | i + 1, _ => by
    rw [mW]; split
    · rename_i hn
      cases e : mW l i with
      | nil => rw [e] at hn; cases hn
      | cons a r => rw [List.length_cons]; omega
    · rw [List.length_append, List.length_singleton]; omega
theorem u41 {ms : List (List Int)} (h : MsV ms) (h1 : 1 ≤ ms.length) (h2 : ms.length ≤ 16) : sQ ms = true := by
  refine fT h1 h2 fun i hi => k2l ?_ ?_
  · rw [show List.getD ms i [] = ms[i] by rw [List.getD_eq_getElem?_getD, List.getElem?_eq_getElem hi]; rfl]
    exact h.1 _ (List.getElem_mem hi)
  · rw [show List.getD ms i [] = ms[i] by rw [List.getD_eq_getElem?_getD, List.getElem?_eq_getElem hi]; rfl]
    refine decide_eq_false fun hm => ?_
    obtain ⟨j, hj, e⟩ := List.mem_iff_getElem.1 hm
    rw [List.length_take] at hj
    rw [List.getElem_take] at e
    exact List.pairwise_iff_getElem.1 h.2 j i (by omega) hi (by omega) e
/-! boxes -/
theorem u7i : SpB rtT 5 1000 768000 := ⟨rfl, by decide⟩
theorem u79 : SpB szT 4 1 65536 := ⟨rfl, by decide⟩
theorem zR {l : List Int} {n : Nat} {lo hi : Int} (h : eS l n lo hi = true) : f6 l n = true ∧ spS l n = l ∧ spN l n = n ∧ 1 ≤ n := by
  unfold eS at h
  rw [Bool.and_eq_true, decide_eq_true_iff] at h
  exact ⟨h.1, (u4o h.1).1, (u4o h.1).2, h.2.1⟩
theorem u42 {ms : List (List Int)} (h : sQ ms = true) : 1 ≤ ms.length := (of_decide_eq_true h).1
attribute [local irreducible] v4 yI vW dR vC kB kA uT mT cQ mX mW knK eS sQ
theorem u31 {l : List Int} (h : Byt l) : dK (boX l).k (boX l).r (boX l).rn (boX l).m (boX l).s (boX l).sn = true := by
  have b1 : Byt (bo1 l) := kE _ (kE _ h)
  have b2 : Byt (bo2 l) := vT b1 _
  have b3 : Byt (bo3 l) := v9 b2
  have b4 : Byt (bo4 l) := v9 b3
  have b5 : Byt (bo5 l) := kE _ b4
  have n1 := kO (qY (bo2 l) 5) 5 (vB b2 5)
  have n2 := kO (qY (bo3 l) 4) 4 (vB b3 4)
  have n3 := kO (bo4 l) 3 b4
  obtain ⟨r1, r2, r3⟩ := k9y u7i (by decide) (bo2 l) (by show kB _ 5 < 5; omega)
  obtain ⟨s1, s2, s3⟩ := k9y u79 (by decide) (bo3 l) (by show kB _ 4 < 4; omega)
  have m1 := u5l (bo5 l) (boN l) (by unfold boN; omega)
  have m2 := xM (bo5 l) (boN l)
  have m3 : boN l ≤ 3 := by unfold boN; omega
  show dK (jD l) (jC l) (iZ l) (dV l) (jB l) (iY l) = true
  unfold jC iZ dV jB iY
  exact mJ (u0o h).ok.1 (u02 r3 r1 (by omega) (by decide) (by decide)) (u41 (u5k b5 _) m1 (by omega)) (u02 s3 s1 (by omega) (by decide) (by decide))
def BxV (b : Bx) : Prop := BxW b ∧ KG b.k ∧ dK b.k b.r b.rn b.m b.s b.sn = true
def BsV (bs : List Bx) : Prop := ∀ b ∈ bs, BxV b
theorem mK {k : Int} {r : List Int} {rn : Nat} {m : List (List Int)} {s : List Int} {sn : Nat} (h : dK k r rn m s sn = true) : (¬ k = 0 ∧ dX k = 0) ∧ eS r rn 1000 768000 = true ∧ sQ m = true ∧ eS s sn 1 65536 = true := by
  unfold dK at h
  rw [Bool.and_eq_true, Bool.and_eq_true, Bool.and_eq_true, decide_eq_true_iff] at h
  exact h
theorem BxV.g {b : Bx} (h : BxV b) : BxG b := by
  obtain ⟨h1, h2, h3⟩ := h
  obtain ⟨_, p2, p3, p4⟩ := mK h3
  obtain ⟨_, _, r3, r4⟩ := zR p2
  obtain ⟨_, _, s3, s4⟩ := zR p4
  exact ⟨h1, by omega, by omega, u42 p3, h2.ok.2⟩
theorem BsV.g {bs : List Bx} (h : BsV bs) : BsG bs := fun b hb => (h b hb).g
theorem BsV.w {bs : List Bx} (h : BsV bs) : BsW bs := fun b hb => (h b hb).1
theorem BsV.vb {bs : List Bx} (h : BsV bs) (hn : bs.length ≤ 64) : iI bs = true := k2m hn fun i hi => (h _ (fB hi)).2.2
theorem BsV.eq {bs : List Bx} (h : BsV bs) (hn : bs.length ≤ 64) : bxL bs = bs := u6g (h.vb hn)
theorem BsV.nil : BsV [] := fun b hb => by cases hb
theorem BsV.app {a b : List Bx} (h : BsV a) (h2 : BsV b) : BsV (a ++ b) := fun m hm => (List.mem_append.1 hm).elim (h m) (h2 m)
theorem BsV.one {b : Bx} (h : BxV b) : BsV [b] := fun m hm => by rw [List.mem_singleton.1 hm]; exact h
theorem BsV.box {xs : List Bx} (h : BsV xs) {i : Nat} (hi : i < xs.length) : BxV (vX (vK xs i) (vH xs i) (uM xs i) (kW xs i) (aG xs i) (yW xs i)) := h _ (fB hi)
theorem u0p {l : List Int} (h : Byt l) : ∀ i, BsV (bbL l i)
  | 0 => BsV.nil
  | i + 1 => (u0p h i).app (BsV.one ⟨u0n _, u0o (fD h i), u31 (fD h i)⟩)
end Go.Proofs.Ytdbjebdomdnbkaa
namespace Go.Proofs.Ytdbjebdomdnbkaa
open Go.ChangeShapes Go.WideShapes Go.ChangeAt Go.RowKit
set_option linter.unusedVariables false
set_option linter.unusedSimpArgs false
/-! chapter 11: sums of bytes -/
set_option maxHeartbeats 4000000
set_option maxRecDepth 100000
def vU (a b : Int) : Int := qR .xor .u32 a b
def sG (a : Int) : Int := qR .and .u32 a 1
theorem nN (a b : Int) : qR .xor .u32 a b = vU a b := rfl
theorem u0q (a : Int) : qR .and .u32 a 1 = sG a := rfl
theorem u13 (a b : Int) : vU a b = ((BitVec.ofInt 32 a ^^^ BitVec.ofInt 32 b).toNat : Int) := by
  show IntKind.u32.wrap _ = _
  exact bS (by simp only [wV]; have := (BitVec.ofInt 32 a ^^^ BitVec.ofInt 32 b).isLt; exact ⟨by omega, by show (((BitVec.ofInt 32 a ^^^ BitVec.ofInt 32 b).toNat : Nat) : Int) ≤ 4294967295; omega⟩)
theorem vI (a b : Int) : 0 ≤ vU a b ∧ vU a b ≤ 4294967295 := by
  rw [u13]; have := (BitVec.ofInt 32 a ^^^ BitVec.ofInt 32 b).isLt; omega
def vQ (r : Int) : Nat → Int
  | 0 => r
  | k + 1 => if sG (vQ r k) = 1 then vU (vQ r k / 2) 3988292384 else vQ r k / 2
theorem cV {r z : Int} {k : Nat} (h : vQ r k = z) (h1 : sG z = 1) : vQ r (k + 1) = vU (z / 2) 3988292384 := by subst h; exact if_pos h1
theorem cW {r z : Int} {k : Nat} (h : vQ r k = z) (h1 : ¬ sG z = 1) : vQ r (k + 1) = z / 2 := by subst h; exact if_neg h1
def wU (l : List Int) : Nat → Int
  | 0 => 4294967295
  | k + 1 => vQ (vU (wU l k) (List.getD l k 0)) 8
theorem k18 {l : List Int} {y z : Int} {k : Nat} (h : wU l k = y) (h1 : vQ (vU y (List.getD l k 0)) 8 = z) : wU l (k + 1) = z := by subst h; exact h1
theorem u4r (l : List Int) : wU l 0 = 4294967295 := rfl
theorem u6e (x : Int) : vQ x 0 = x := rfl
def aR (l : List Int) : Int := vU 4294967295 (wU l l.length)
theorem jN (l : List Int) : 0 ≤ aR l ∧ aR l ≤ 4294967295 := vI _ _
theorem k2u {l : List Int} {y : Int} {k m : Nat} (hm : l.length = m) (hk : k = m) (h : wU l k = y) : vU 4294967295 y = aR l := by subst hk; subst hm; subst h; rfl
attribute [local irreducible] vQ wU aR vU sG
theorem b9 {p : Prop} (h : p := by first | omega | assumption | simp) : p := h
theorem iH {p : Prop} (h : p := by first | rfl | omega | assumption | (simp; done) | (simp; omega)) : p := h
theorem iG {p : Prop} (h : p := by first | omega | (show _ < _; simp; omega)) : p := h
theorem k6z (l : List Int) (m : Nat) (hm : List.length l = m) (hb : m ≤ 1000000) (hy : Byt l) : Fun 23 [.c (.d (D.sl (dI .u8 l) m))] (kF []) 0 (kS (D.lit (.int .u32 (aR l)))) (kF []) 0 := by
  refine Fun.mk (n := 31) Try.func23 rfl rfl (Nat.le_of_ble_eq_true rfl) ?_
  intro cx hcx
  refine kI [.no] True [(0, sV .u8 l m)] [] 0 trivial ?_
  refine k8 [.no] True [(0, sV .u8 l m), (3, kS (D.lit (.int .u32 4294967295)))] trivial ?_
  refine AW.seq ?_
  refine k8 [.no, .no, .no] True [(3, kS (D.lit (.int .u32 4294967295))), (7, sV .u8 l m), (8, uV m), (9, iV 0)] trivial ?_
  refine AW.block ?_
  refine kX 0 hcx (fun (x : {x : Nat × Int // match x with | (k, y) => (k ≤ m) ∧ (wU l k = y) ∧ (0 ≤ y ∧ y ≤ 4294967295)}) => match x with | ⟨(k, y), _⟩ => (⟨[(3, kS (D.lit (.int .u32 y))), (7, sV .u8 l m), (8, uV m), (9, uV k)], [], 0⟩ : ES)) (fun x => match x with | ⟨(k, y), _⟩ => m - k) ⟨((0 : Nat), (4294967295 : Int)), ⟨b9, (u4r _), zo⟩⟩ [] (P := (kN 4294967295) ∧ (kZ (dI .u8 l)) ∧ (kP m) ∧ (kN (m : Int)) ∧ (kN 0)) zk ⟨rfl, rfl, rfl, rfl, rfl⟩ ?_
  rintro ⟨⟨k, y⟩, hinv0⟩
  obtain ⟨hk, hv, hr⟩ : (k ≤ m) ∧ (wU l k = y) ∧ (0 ≤ y ∧ y ≤ 4294967295) := hinv0
  refine qU (l := [(3, kS (D.lit (.int .u32 y))), (7, sV .u8 l m), (8, uV m), (9, uV k)]) (g := []) (nx := 0) rfl rfl rfl ?_
  by_cases hx1 : (((k : Nat) : Int) < ((m : Nat) : Int))
  · refine zr [.b true] [3, 7, 8, 9, 10] [] (((k : Int) < (m : Int))) [(3, kS (D.lit (.int .u32 y))), (7, sV .u8 l m), (8, uV m), (9, uV k), (10, bV true)] [] 0 zo ?_
    refine AW.seq ?_
    refine vD ?_
    refine AW.seq ?_
    refine AW.block ?_
    have hx2 : 0 ≤ (List.getD l k 0) ∧ (List.getD l k 0) ≤ 255 := (kQ : Byt l).at _ (by first | omega | (simp only [kU, kT, pbL_len, List.length_append, List.length_cons, List.length_nil, List.length_take, List.length_drop, List.length_replicate, List.length_set] <;> omega))
    refine kI [.n k, .d (D.lit (.int .u8 (List.getD l k 0))), .no] ((kN (k : Int)) ∧ (k < m) ∧ ((List.drop k (dI .u8 l))[0]? = some (D.lit (.int .u8 (List.getD l k 0))))) [(3, kS (D.lit (.int .u32 y))), (5, kS (D.lit (.int .u8 (List.getD l k 0)))), (7, sV .u8 l m), (8, uV m), (9, uV k)] [] 0 ⟨rfl, zo, (qW _ _ _ (by first | omega | (simp only [kU, kT, pbL_len, qM, List.length_append, List.length_cons, List.length_nil, List.length_take, List.length_drop, List.length_replicate, List.length_set, List.length_map, List.length_reverse, Nat.mul_one] <;> omega) | rfl))⟩ ?_
    have hx3 : 0 ≤ (vU y (List.getD l k 0)) ∧ (vU y (List.getD l k 0)) ≤ 4294967295 := vI _ _
    refine k8 [.no, .no, .w, .i (vU y (List.getD l k 0)), .no] ((0 ≤ (List.getD l k 0) ∧ (List.getD l k 0) ≤ 4294967295) ∧ (qR .xor .u32 y (List.getD l k 0) = (vU y (List.getD l k 0)))) [(3, kS (D.lit (.int .u32 (vU y (List.getD l k 0))))), (7, sV .u8 l m), (8, uV m), (9, uV k)] ⟨⟨by omega, by omega⟩, (nN _ _)⟩ ?_
    refine k8 [.no] True [(3, kS (D.lit (.int .u32 (vU y (List.getD l k 0))))), (7, sV .u8 l m), (8, uV m), (9, uV k), (17, iV 0)] trivial ?_
    refine AW.block ?_
    refine kX 0 hcx (fun (x : {x : Nat × Int // match x with | (j, z) => (j ≤ 8) ∧ (vQ (vU y (List.getD l k 0)) j = z) ∧ (0 ≤ z ∧ z ≤ 4294967295)}) => match x with | ⟨(j, z), _⟩ => (⟨[(3, kS (D.lit (.int .u32 z))), (7, sV .u8 l m), (8, uV m), (9, uV k), (17, uV j)], [], 0⟩ : ES)) (fun x => match x with | ⟨(j, z), _⟩ => 8 - j) ⟨((0 : Nat), ((vU y (List.getD l k 0)) : Int)), ⟨b9, (u6e _), (vI _ _)⟩⟩ [] (P := (kN (vU y (List.getD l k 0))) ∧ (kZ (dI .u8 l)) ∧ (kP m) ∧ (kN (m : Int)) ∧ (kN (k : Int)) ∧ (kN 0)) zk ⟨rfl, rfl, rfl, rfl, rfl, rfl⟩ ?_
    rintro ⟨⟨j, z⟩, hinv1⟩
    obtain ⟨hj, hz, hs⟩ : (j ≤ 8) ∧ (vQ (vU y (List.getD l k 0)) j = z) ∧ (0 ≤ z ∧ z ≤ 4294967295) := hinv1
    refine qU (l := [(3, kS (D.lit (.int .u32 z))), (7, sV .u8 l m), (8, uV m), (9, uV k), (17, uV j)]) (g := []) (nx := 0) rfl rfl rfl ?_
    by_cases hx4 : (((j : Nat) : Int) < 8)
    · refine zr [.b true] [3, 7, 8, 9, 17, 18] [] (((j : Int) < 8)) [(3, kS (D.lit (.int .u32 z))), (7, sV .u8 l m), (8, uV m), (9, uV k), (17, uV j), (18, bV true)] [] 0 zo ?_
      refine AW.seq ?_
      refine vD ?_
      refine AW.seq ?_
      refine AW.block ?_
      refine kI [.no, .i (sG z), .no] (qR .and .u32 z 1 = (sG z)) [(3, kS (D.lit (.int .u32 z))), (6, kS (D.lit (.int .u32 (sG z)))), (7, sV .u8 l m), (8, uV m), (9, uV k), (17, uV j)] [] 0 (u0q _) ?_
      refine k8 [.no, .n 1, .no] ((kN 1) ∧ ((1 : Nat) ≤ 32)) [(3, kS (D.lit (.int .u32 (z / 2)))), (6, kS (D.lit (.int .u32 (sG z)))), (7, sV .u8 l m), (8, uV m), (9, uV k), (17, uV j)] ⟨rfl, zo⟩ ?_
      by_cases hx5 : ((sG z) = 1)
      · refine zr [.no, .b true] [3, 7, 8, 9, 17, 24] [] (((sG z) = 1)) [(3, kS (D.lit (.int .u32 (z / 2)))), (7, sV .u8 l m), (8, uV m), (9, uV k), (17, uV j), (24, bV true)] [] 0 zo ?_
        refine zt ?_
        have hx6 : 0 ≤ (vU (z / 2) 3988292384) ∧ (vU (z / 2) 3988292384) ≤ 4294967295 := vI _ _
        refine v7 [.no, .i (vU (z / 2) 3988292384), .no] (qR .xor .u32 (z / 2) 3988292384 = (vU (z / 2) 3988292384)) [(3, kS (D.lit (.int .u32 (vU (z / 2) 3988292384)))), (7, sV .u8 l m), (8, uV m), (9, uV k), (17, uV j)] [] 0 (nN _ _) ?_
        refine yD [.w, .no] (qJ ((j : Int) + 1)) [(3, kS (D.lit (.int .u32 (vU (z / 2) 3988292384)))), (7, sV .u8 l m), (8, uV m), (9, uV k), (17, iV (↑j + 1))] ⟨by omega, by omega⟩ ?_
        exact qE ⟨(((j + 1) : Nat), ((vU (z / 2) 3988292384) : Int)), ⟨b9, (by first | exact cV hz (by assumption) | exact cW hz (by assumption)), (by first | exact vI _ _ | omega)⟩⟩ [] (P := (kN (vU (z / 2) 3988292384)) ∧ (kZ (dI .u8 l)) ∧ (kP m) ∧ (kN (m : Int)) ∧ (kN (k : Int)) ∧ (q1S j)) zk ⟨rfl, rfl, rfl, rfl, rfl, iH⟩ (show 8 - (j + 1) < 8 - j from iG)
      · refine zr [.no, .b false] [3, 7, 8, 9, 17, 24] [] (¬ ((sG z) = 1)) [(3, kS (D.lit (.int .u32 (z / 2)))), (7, sV .u8 l m), (8, uV m), (9, uV k), (17, uV j), (24, bV false)] [] 0 zo ?_
        refine yC ?_
        refine v7 [.w, .no] (qJ ((j : Int) + 1)) [(3, kS (D.lit (.int .u32 (z / 2)))), (7, sV .u8 l m), (8, uV m), (9, uV k), (17, iV (↑j + 1))] [] 0 ⟨by omega, by omega⟩ ?_
        exact qE ⟨(((j + 1) : Nat), ((z / 2) : Int)), ⟨b9, (by first | exact cV hz (by assumption) | exact cW hz (by assumption)), (by first | exact vI _ _ | omega)⟩⟩ [] (P := (kN (z / 2)) ∧ (kZ (dI .u8 l)) ∧ (kP m) ∧ (kN (m : Int)) ∧ (kN (k : Int)) ∧ (q1S j)) zk ⟨rfl, rfl, rfl, rfl, rfl, iH⟩ (show 8 - (j + 1) < 8 - j from iG)
    · refine zr [.b false] [3, 7, 8, 9, 17, 18] [] (¬ ((j : Int) < 8)) [(3, kS (D.lit (.int .u32 z))), (7, sV .u8 l m), (8, uV m), (9, uV k), (17, uV j), (18, bV false)] [] 0 zo ?_
      refine AW.seq ?_
      refine zf ?_
      refine AW.exit ?_
      refine v7 [.w, .no] (qJ ((k : Int) + 1)) [(3, kS (D.lit (.int .u32 z))), (7, sV .u8 l m), (8, uV m), (9, iV (↑k + 1))] [] 0 ⟨by omega, by omega⟩ ?_
      exact qE ⟨(((k + 1) : Nat), (z : Int)), ⟨b9, (k18 hv (by first | assumption | (rw [show (8 : Nat) = j by omega]; assumption))), (by assumption)⟩⟩ [] (P := (kN z) ∧ (kZ (dI .u8 l)) ∧ (kP m) ∧ (kN (m : Int)) ∧ (q1S k)) zk ⟨rfl, rfl, rfl, rfl, iH⟩ (show m - (k + 1) < m - k from iG)
  · refine zr [.b false] [3, 7, 8, 9, 10] [] (¬ ((k : Int) < (m : Int))) [(3, kS (D.lit (.int .u32 y))), (7, sV .u8 l m), (8, uV m), (9, uV k), (10, bV false)] [] 0 zo ?_
    refine AW.seq ?_
    refine zf ?_
    refine AW.exit ?_
    have hx7 : 0 ≤ (vU 4294967295 y) ∧ (vU 4294967295 y) ≤ 4294967295 := vI _ _
    refine kI [.no, .i (vU 4294967295 y), .no] (qR .xor .u32 4294967295 y = (vU 4294967295 y)) [(2, kS (D.lit (.int .u32 (vU 4294967295 y))))] [] 0 (nN _ _) ?_
    refine AW.ret ?_
    exact kC (.inr rfl) [] (P := (((aR l) : Int) = (vU 4294967295 y))) zk (by first | omega | exact k2u hm zo hv | exact (k2u hm zo hv).symm)
theorem u3a (l : List Int) (m : Nat) (hm : List.length l = m) (hb : m ≤ 1000000) (hy : Byt l) : Fun 29 [.c (.d (D.sl (dI .u8 l) m))] (kF []) 0 (kS (D.lit (.int .u32 (aR l)))) (kF []) 0 := by
  refine Fun.mk (n := 33) Try.func29 rfl rfl (Nat.le_of_ble_eq_true rfl) ?_
  intro cx hcx
  refine kI [.no] True [(0, sV .u8 l m)] [] 0 trivial ?_
  refine k8 [.no] True [(0, sV .u8 l m), (3, kS (D.lit (.int .u32 4294967295)))] trivial ?_
  refine AW.seq ?_
  refine k8 [.no, .no, .no] True [(3, kS (D.lit (.int .u32 4294967295))), (8, sV .u8 l m), (9, uV m), (10, iV 0)] trivial ?_
  refine AW.block ?_
  refine kX 0 hcx (fun (x : {x : Nat × Int // match x with | (k, y) => (k ≤ m) ∧ (wU l k = y) ∧ (0 ≤ y ∧ y ≤ 4294967295)}) => match x with | ⟨(k, y), _⟩ => (⟨[(3, kS (D.lit (.int .u32 y))), (8, sV .u8 l m), (9, uV m), (10, uV k)], [], 0⟩ : ES)) (fun x => match x with | ⟨(k, y), _⟩ => m - k) ⟨((0 : Nat), (4294967295 : Int)), ⟨b9, (u4r _), zo⟩⟩ [] (P := (kN 4294967295) ∧ (kZ (dI .u8 l)) ∧ (kP m) ∧ (kN (m : Int)) ∧ (kN 0)) zk ⟨rfl, rfl, rfl, rfl, rfl⟩ ?_
  rintro ⟨⟨k, y⟩, hinv0⟩
  obtain ⟨hk, hv, hr⟩ : (k ≤ m) ∧ (wU l k = y) ∧ (0 ≤ y ∧ y ≤ 4294967295) := hinv0
  refine qU (l := [(3, kS (D.lit (.int .u32 y))), (8, sV .u8 l m), (9, uV m), (10, uV k)]) (g := []) (nx := 0) rfl rfl rfl ?_
  by_cases hx1 : (((k : Nat) : Int) < ((m : Nat) : Int))
  · refine zr [.b true] [3, 8, 9, 10, 11] [] (((k : Int) < (m : Int))) [(3, kS (D.lit (.int .u32 y))), (8, sV .u8 l m), (9, uV m), (10, uV k), (11, bV true)] [] 0 zo ?_
    refine AW.seq ?_
    refine vD ?_
    refine AW.seq ?_
    refine AW.block ?_
    have hx2 : 0 ≤ (List.getD l k 0) ∧ (List.getD l k 0) ≤ 255 := (kQ : Byt l).at _ (by first | omega | (simp only [kU, kT, pbL_len, List.length_append, List.length_cons, List.length_nil, List.length_take, List.length_drop, List.length_replicate, List.length_set] <;> omega))
    refine kI [.n k, .d (D.lit (.int .u8 (List.getD l k 0))), .no] ((kN (k : Int)) ∧ (k < m) ∧ ((List.drop k (dI .u8 l))[0]? = some (D.lit (.int .u8 (List.getD l k 0))))) [(3, kS (D.lit (.int .u32 y))), (5, kS (D.lit (.int .u8 (List.getD l k 0)))), (8, sV .u8 l m), (9, uV m), (10, uV k)] [] 0 ⟨rfl, zo, (qW _ _ _ (by first | omega | (simp only [kU, kT, pbL_len, qM, List.length_append, List.length_cons, List.length_nil, List.length_take, List.length_drop, List.length_replicate, List.length_set, List.length_map, List.length_reverse, Nat.mul_one] <;> omega) | rfl))⟩ ?_
    have hx3 : 0 ≤ (vU y (List.getD l k 0)) ∧ (vU y (List.getD l k 0)) ≤ 4294967295 := vI _ _
    refine k8 [.no, .no, .w, .i (vU y (List.getD l k 0)), .no] ((0 ≤ (List.getD l k 0) ∧ (List.getD l k 0) ≤ 4294967295) ∧ (qR .xor .u32 y (List.getD l k 0) = (vU y (List.getD l k 0)))) [(3, kS (D.lit (.int .u32 (vU y (List.getD l k 0))))), (8, sV .u8 l m), (9, uV m), (10, uV k)] ⟨⟨by omega, by omega⟩, (nN _ _)⟩ ?_
    refine k8 [.no] True [(3, kS (D.lit (.int .u32 (vU y (List.getD l k 0))))), (6, iV 0), (8, sV .u8 l m), (9, uV m), (10, uV k)] trivial ?_
    refine AW.block ?_
    refine kX 0 hcx (fun (x : {x : Nat × Int // match x with | (j, z) => (j ≤ 8) ∧ (vQ (vU y (List.getD l k 0)) j = z) ∧ (0 ≤ z ∧ z ≤ 4294967295)}) => match x with | ⟨(j, z), _⟩ => (⟨[(3, kS (D.lit (.int .u32 z))), (6, uV j), (8, sV .u8 l m), (9, uV m), (10, uV k)], [], 0⟩ : ES)) (fun x => match x with | ⟨(j, z), _⟩ => 8 - j) ⟨((0 : Nat), ((vU y (List.getD l k 0)) : Int)), ⟨b9, (u6e _), (vI _ _)⟩⟩ [] (P := (kN (vU y (List.getD l k 0))) ∧ (kN 0) ∧ (kZ (dI .u8 l)) ∧ (kP m) ∧ (kN (m : Int)) ∧ (kN (k : Int))) zk ⟨rfl, rfl, rfl, rfl, rfl, rfl⟩ ?_
    rintro ⟨⟨j, z⟩, hinv1⟩
    obtain ⟨hj, hz, hs⟩ : (j ≤ 8) ∧ (vQ (vU y (List.getD l k 0)) j = z) ∧ (0 ≤ z ∧ z ≤ 4294967295) := hinv1
    refine qU (l := [(3, kS (D.lit (.int .u32 z))), (6, uV j), (8, sV .u8 l m), (9, uV m), (10, uV k)]) (g := []) (nx := 0) rfl rfl rfl ?_
    refine AW.seq ?_
    by_cases hx4 : (((j : Nat) : Int) < 8)
    · refine zr [.no, .b true] [3, 6, 8, 9, 10, 19] [] (((j : Int) < 8)) [(3, kS (D.lit (.int .u32 z))), (6, uV j), (8, sV .u8 l m), (9, uV m), (10, uV k), (19, bV true)] [] 0 zo ?_
      refine vD ?_
      refine AW.seq ?_
      refine AW.block ?_
      refine kI [.no, .i (sG z), .no] (qR .and .u32 z 1 = (sG z)) [(3, kS (D.lit (.int .u32 z))), (6, uV j), (7, kS (D.lit (.int .u32 (sG z)))), (8, sV .u8 l m), (9, uV m), (10, uV k)] [] 0 (u0q _) ?_
      refine k8 [.no, .n 1, .no] ((kN 1) ∧ ((1 : Nat) ≤ 32)) [(3, kS (D.lit (.int .u32 (z / 2)))), (6, uV j), (7, kS (D.lit (.int .u32 (sG z)))), (8, sV .u8 l m), (9, uV m), (10, uV k)] ⟨rfl, zo⟩ ?_
      by_cases hx5 : ((sG z) = 1)
      · refine zr [.no, .b true] [3, 6, 8, 9, 10, 27] [] (((sG z) = 1)) [(3, kS (D.lit (.int .u32 (z / 2)))), (6, uV j), (8, sV .u8 l m), (9, uV m), (10, uV k), (27, bV true)] [] 0 zo ?_
        refine zt ?_
        have hx6 : 0 ≤ (vU (z / 2) 3988292384) ∧ (vU (z / 2) 3988292384) ≤ 4294967295 := vI _ _
        refine v7 [.no, .i (vU (z / 2) 3988292384), .no] (qR .xor .u32 (z / 2) 3988292384 = (vU (z / 2) 3988292384)) [(3, kS (D.lit (.int .u32 (vU (z / 2) 3988292384)))), (6, uV j), (8, sV .u8 l m), (9, uV m), (10, uV k)] [] 0 (nN _ _) ?_
        refine yD [.no, .w, .no] (qJ ((j : Int) + 1)) [(3, kS (D.lit (.int .u32 (vU (z / 2) 3988292384)))), (6, iV (↑j + 1)), (8, sV .u8 l m), (9, uV m), (10, uV k)] ⟨by omega, by omega⟩ ?_
        exact qE ⟨(((j + 1) : Nat), ((vU (z / 2) 3988292384) : Int)), ⟨b9, (by first | exact cV hz (by assumption) | exact cW hz (by assumption)), (by first | exact vI _ _ | omega)⟩⟩ [] (P := (kN (vU (z / 2) 3988292384)) ∧ (q1S j) ∧ (kZ (dI .u8 l)) ∧ (kP m) ∧ (kN (m : Int)) ∧ (kN (k : Int))) zk ⟨rfl, iH, rfl, rfl, rfl, rfl⟩ (show 8 - (j + 1) < 8 - j from iG)
      · refine zr [.no, .b false] [3, 6, 8, 9, 10, 27] [] (¬ ((sG z) = 1)) [(3, kS (D.lit (.int .u32 (z / 2)))), (6, uV j), (8, sV .u8 l m), (9, uV m), (10, uV k), (27, bV false)] [] 0 zo ?_
        refine yC ?_
        refine v7 [.no, .w, .no] (qJ ((j : Int) + 1)) [(3, kS (D.lit (.int .u32 (z / 2)))), (6, iV (↑j + 1)), (8, sV .u8 l m), (9, uV m), (10, uV k)] [] 0 ⟨by omega, by omega⟩ ?_
        exact qE ⟨(((j + 1) : Nat), ((z / 2) : Int)), ⟨b9, (by first | exact cV hz (by assumption) | exact cW hz (by assumption)), (by first | exact vI _ _ | omega)⟩⟩ [] (P := (kN (z / 2)) ∧ (q1S j) ∧ (kZ (dI .u8 l)) ∧ (kP m) ∧ (kN (m : Int)) ∧ (kN (k : Int))) zk ⟨rfl, iH, rfl, rfl, rfl, rfl⟩ (show 8 - (j + 1) < 8 - j from iG)
    · refine zr [.no, .b false] [3, 6, 8, 9, 10, 19] [] (¬ ((j : Int) < 8)) [(3, kS (D.lit (.int .u32 z))), (6, uV j), (8, sV .u8 l m), (9, uV m), (10, uV k), (19, bV false)] [] 0 zo ?_
      refine zf ?_
      refine AW.exit ?_
      refine v7 [.w, .no] (qJ ((k : Int) + 1)) [(3, kS (D.lit (.int .u32 z))), (8, sV .u8 l m), (9, uV m), (10, iV (↑k + 1))] [] 0 ⟨by omega, by omega⟩ ?_
      exact qE ⟨(((k + 1) : Nat), (z : Int)), ⟨b9, (k18 hv (by first | assumption | (rw [show (8 : Nat) = j by omega]; assumption))), (by assumption)⟩⟩ [] (P := (kN z) ∧ (kZ (dI .u8 l)) ∧ (kP m) ∧ (kN (m : Int)) ∧ (q1S k)) zk ⟨rfl, rfl, rfl, rfl, iH⟩ (show m - (k + 1) < m - k from iG)
  · refine zr [.b false] [3, 8, 9, 10, 11] [] (¬ ((k : Int) < (m : Int))) [(3, kS (D.lit (.int .u32 y))), (8, sV .u8 l m), (9, uV m), (10, uV k), (11, bV false)] [] 0 zo ?_
    refine AW.seq ?_
    refine zf ?_
    refine AW.exit ?_
    have hx7 : 0 ≤ (vU 4294967295 y) ∧ (vU 4294967295 y) ≤ 4294967295 := vI _ _
    refine kI [.no, .i (vU 4294967295 y), .no] (qR .xor .u32 4294967295 y = (vU 4294967295 y)) [(2, kS (D.lit (.int .u32 (vU 4294967295 y))))] [] 0 (nN _ _) ?_
    refine AW.ret ?_
    exact kC (.inr rfl) [] (P := (((aR l) : Int) = (vU 4294967295 y))) zk (by first | omega | exact k2u hm zo hv | exact (k2u hm zo hv).symm)
end Go.Proofs.Ytdbjebdomdnbkaa
