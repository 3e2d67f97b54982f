/- Merged texts. -/
import Derived.Test.YtalbpleglapihaaZL10M
import Derived.Test.YtalbpleglapihaaZL10G
namespace Go.Proofs.Ytalbpleglapihaa
open Go.ChangeShapes Go.WideShapes Go.ChangeAt Go.RowKit
set_option linter.unusedVariables false
set_option linter.unusedSimpArgs false
def BxG (b : Bx) : Prop := BxW b ∧ 1 ≤ spN b.r b.rn ∧ 1 ≤ spN b.s b.sn ∧ 1 ≤ List.length b.m ∧ ∃ q, 1 ≤ q ∧ q ≤ 7 ∧ kiB b.k q = true
def BsG (bs : List Bx) : Prop := ∀ b ∈ bs, BxG b
theorem dU {bs : List Bx} {i : Nat} (h : i < bs.length) : eW bs i ∈ bs := by
  unfold eW; rw [List.getD_eq_getElem?_getD, List.getElem?_eq_getElem h]; exact List.getElem_mem _
end Go.Proofs.Ytalbpleglapihaa
namespace Go.Proofs.Ytalbpleglapihaa
open Go.ChangeShapes Go.WideShapes Go.ChangeAt Go.RowKit
set_option linter.unusedVariables false
set_option linter.unusedSimpArgs false
/-! chapter 10: boxes out of dice are valid -/
theorem k6g (l : List Int) (h : Byt l) : ∃ q : Nat, 1 ≤ q ∧ q ≤ 7 ∧ kbV l = ((2 ^ q : Nat) : Int) := by
  have h2 := kO l 7 h
  refine ⟨1 + kB l 7, by omega, by omega, ?_⟩
  unfold kbV
  have h3 : kB l 7 < 7 := by omega
  generalize kB l 7 = n at *
  match n, h3 with
  | 0, _ => rfl
  | 1, _ => rfl
  | 2, _ => rfl
  | 3, _ => rfl
  | 4, _ => rfl
  | 5, _ => rfl
  | 6, _ => rfl
def KG (k : Int) : Prop := 2 ≤ k ∧ k ≤ 254 ∧ k % 2 = 0
def orC : Bool := (List.range 127).all fun n => (List.range 7).all fun q => decide (2 ≤ zE (2 * (n : Int) + 2) ((2 ^ (q + 1) : Nat) : Int) ∧ zE (2 * (n : Int) + 2) ((2 ^ (q + 1) : Nat) : Int) ≤ 254 ∧ zE (2 * (n : Int) + 2) ((2 ^ (q + 1) : Nat) : Int) % 2 = 0)
theorem u11 : orC = true := by kernel_rfl
theorem KG.or {k : Int} (h : KG k) {q : Nat} (h1 : 1 ≤ q) (h2 : q ≤ 7) : KG (zE k ((2 ^ q : Nat) : Int)) := by
  unfold KG at h
  obtain ⟨n, rfl⟩ : ∃ n : Nat, k = 2 * (n : Int) + 2 := ⟨((k - 2) / 2).toNat, by omega⟩
  obtain ⟨r, rfl⟩ : ∃ r, q = r + 1 := ⟨q - 1, by omega⟩
  have h9 := List.all_eq_true.1 (List.all_eq_true.1 u11 n (List.mem_range.2 (by omega))) r (List.mem_range.2 (by omega))
  have h8 := of_decide_eq_true h9
  exact h8
theorem KG.one {q : Nat} (h1 : 1 ≤ q) (h2 : q ≤ 7) : KG ((2 ^ q : Nat) : Int) := by
  match q, h1, h2 with
  | 1, _, _ => exact ⟨by decide, by decide, by decide⟩
  | 2, _, _ => exact ⟨by decide, by decide, by decide⟩
  | 3, _, _ => exact ⟨by decide, by decide, by decide⟩
  | 4, _, _ => exact ⟨by decide, by decide, by decide⟩
  | 5, _, _ => exact ⟨by decide, by decide, by decide⟩
  | 6, _, _ => exact ⟨by decide, by decide, by decide⟩
  | 7, _, _ => exact ⟨by decide, by decide, by decide⟩
theorem u1k {l : List Int} {k : Int} (hl : Byt l) (hk : KG k) : ∀ i, KG (knK l k i)
  | 0 => hk
  | i + 1 => by
    obtain ⟨q, h1, h2, e⟩ := k6g (aR l i) (yU hl i)
    show KG (zE (knK l k i) (kbV (aR l i)))
    rw [e]; exact (u1k hl hk i).or h1 h2
theorem k70 {l : List Int} (h : Byt l) : KG (pR l) := by
  unfold pR bo1
  obtain ⟨q, h1, h2, e⟩ := k6g l h
  rw [e]; exact u1k (kF _ (kF _ h)) (KG.one h1 h2) _
def kgC : Bool := (List.range 127).all fun n => decide (iT (2 * (n : Int) + 2) = 0) && (List.range 7).any fun q => decide (odV ((2 * (n : Int) + 2) / ((2 ^ (q + 1) : Nat) : Int)) = 1)
theorem u1l : kgC = true := by kernel_rfl
theorem KG.ok {k : Int} (h : KG k) : (¬ k = 0 ∧ iT k = 0) ∧ ∃ q, 1 ≤ q ∧ q ≤ 7 ∧ kiB k q = true := by
  unfold KG at h
  obtain ⟨n, rfl⟩ : ∃ n : Nat, k = 2 * (n : Int) + 2 := ⟨((k - 2) / 2).toNat, by omega⟩
  have h1 := List.all_eq_true.1 u1l n (List.mem_range.2 (by omega))
  rw [Bool.and_eq_true, decide_eq_true_iff] at h1
  obtain ⟨q, hq, h2⟩ := List.any_eq_true.1 h1.2
  have hq := List.mem_range.1 hq
  exact ⟨⟨by omega, h1.1⟩, q + 1, by omega, by omega, decide_eq_true ⟨by omega, by omega, of_decide_eq_true h2⟩⟩
/-! sets -/
def SpB (l : List Int) (n : Nat) (lo hi : Int) : Prop := l.length = n * 2 ∧ ∀ p ∈ uH l, lo ≤ p.1 ∧ p.1 ≤ p.2 ∧ p.2 ≤ hi
theorem k46 (a b : Int) : uH [a, b] = [(a, b)] := rfl
theorem k67 {sp : List Int} {n : Nat} {lo hi : Int} (h : SpB sp n lo hi) (l : List Int) : ∀ i, i ≤ n → ∃ k, k ≤ i ∧ SpB (lS sp l i) k lo hi
  | 0, _ => ⟨0, Nat.le_refl _, rfl, fun p hp => by cases hp⟩
  | i + 1, hi_ => by
    obtain ⟨k, hk, hl, hb⟩ := k67 h l i zo
    rw [lS]; split
    · refine ⟨k + 1, by omega, by rw [List.length_append]; simp only [List.length_cons, List.length_nil]; omega, fun p hp => ?_⟩
      rw [oE hl] at hp
      rcases List.mem_append.1 hp with hp | hp
      · exact hb p hp
      · rw [List.mem_singleton.1 hp]; exact h.2 _ ((a8 h.1).2 ⟨i, by omega, rfl⟩)
    · exact ⟨k, by omega, hl, hb⟩
theorem k69 {sp : List Int} {n : Nat} {lo hi : Int} (h : SpB sp n lo hi) (h1 : 1 ≤ n) (l : List Int) (hl : kB (qP l n) (n : Int) < n) : 1 ≤ yY sp l n ∧ yY sp l n ≤ n ∧ SpB (y2 sp l n) (yY sp l n) lo hi := by
  obtain ⟨k, hk, h2, h3⟩ := k67 h l n (Nat.le_refl _)
  by_cases e : lS sp l n = []
  · have e1 : y2 sp l n = [List.getD sp (kB (qP l n) (n : Int) * 2) 0, List.getD sp (kB (qP l n) (n : Int) * 2 + 1) 0] := if_pos e
    have e2 : yY sp l n = 1 := by simp [yY, e1]
    rw [e2, e1]
    refine ⟨Nat.le_refl _, h1, rfl, fun p hp => ?_⟩
    rw [k46] at hp
    rw [List.mem_singleton.1 hp]; exact h.2 _ ((a8 h.1).2 ⟨_, hl, rfl⟩)
  · have e1 : y2 sp l n = lS sp l n := if_neg e
    have e2 : yY sp l n = k := by unfold yY; rw [e1, h2]; omega
    have hk0 : k ≠ 0 := fun e3 => e (List.eq_nil_of_length_eq_zero (by omega))
    rw [e2, e1]
    exact ⟨by omega, hk, h2, h3⟩
theorem k8a {l : List Int} {n : Nat} (hl : l.length = n * 2) (hr : RG l n) (z : Int) : b8 (uH (nL l)) z ↔ b8 (uH l) z := by
  unfold nL; rw [rP]; exact (k0s (hr.v hl)).2.1 z
theorem k6d {l : List Int} {n : Nat} {lo hi : Int} (h : SpB l n lo hi) (h1 : 1 ≤ n) (h2 : n ≤ 64) (hlo : 0 ≤ lo) (hhi : hi ≤ 2147483647) : e8 (bF l n) (yF l n) lo hi = true := by
  obtain ⟨hl, hb⟩ := h
  have hr : RG l n := k74 hl fun p hp => by have := hb p hp; unfold fF; omega
  have hj := k6h hl hr
  obtain ⟨_, e1, e2⟩ := wA (gL.2 hr) zo
  have hva := k88 hl
  have hlen := sB l
  have hok : iO (uH (nL l)) := by rw [← e1]; exact k0t hl
  have hme : ∀ z, b8 (uH (nL l)) z ↔ b8 (uH l) z := k8a hl hr
  rw [e1, e2] at *
  have hsv : ∀ p ∈ uH (nL l), lo ≤ p.1 ∧ p.1 ≤ p.2 ∧ p.2 ≤ hi := fun p hp => by
    have hv := k0j hok p hp
    unfold fF at hv
    obtain ⟨q, hq, q1⟩ := (hme p.1).1 ⟨p, hp, by omega⟩
    obtain ⟨r, hr_, r1⟩ := (hme p.2).1 ⟨p, hp, by omega⟩
    have b1 := hb q hq; have b2 := hb r hr_
    omega
  have hn : 1 ≤ g8 l := by
    have hm : (List.getD l (0 * 2) 0, List.getD l (0 * 2 + 1) 0) ∈ uH l := (a8 hl).2 ⟨0, by omega, rfl⟩
    have b1 := hb _ hm
    obtain ⟨q, hq, _⟩ := (hme (List.getD l (0 * 2) 0)).2 ⟨_, hm, by simp only at b1 ⊢; omega⟩
    have : 0 < (uH (nL l)).length := List.length_pos_of_mem hq
    rw [uK hlen] at this; exact this
  have f1 := hsv _ ((a8 hlen).2 ⟨0, by omega, rfl⟩)
  have f2 := hsv _ ((a8 hlen).2 ⟨g8 l - 1, by omega, rfl⟩)
  exact k9m hva ⟨hn, f1.1, f2.2.2⟩
/-! maps -/
theorem u1b : ∀ m ∈ gY, iS m m.length = true := by decide
theorem k86 {l : List Int} (h : Byt l) : uL l ∈ gY := by
  have h2 := kO l 7 h
  have h3 : kB l 7 < gY.length := by show _ < 7; omega
  unfold uL
  rw [List.getD_eq_getElem?_getD, List.getElem?_eq_getElem h3]; exact List.getElem_mem h3
theorem k7g {ms : List (List Int)} {m : List Int} (h : iM ms m = false) : m ∉ ms := fun hm => by
  have : iM ms m = true := List.any_eq_true.2 ⟨m, hm, decide_eq_true ⟨rfl, rfl⟩⟩
  rw [this] at h; cases h
def MsV (ms : List (List Int)) : Prop := (∀ m ∈ ms, iS m m.length = true) ∧ ms.Pairwise fun a b => a ≠ b
theorem u18 {l : List Int} (h : Byt l) : ∀ i, MsV (iP l i)
  | 0 => ⟨fun m hm => (by cases hm), List.Pairwise.nil⟩
  | i + 1 => by
    obtain ⟨h1, h2⟩ := u18 h i
    rw [iP]; split
    · exact ⟨h1, h2⟩
    · rename_i hn
      have hn : iM (iP l i) (uL (iQ l i)) = false := by simpa using hn
      refine ⟨fun m hm => ?_, List.pairwise_append.2 ⟨h2, List.pairwise_singleton .., fun a ha b hb => ?_⟩⟩
      · rcases List.mem_append.1 hm with hm | hm
        · exact h1 m hm
        · rw [List.mem_singleton.1 hm]; exact u1b _ (k86 (dF h i))
      · rw [List.mem_singleton.1 hb]; intro e; exact k7g hn (e ▸ ha)
theorem u19 (l : List Int) : ∀ i, 1 ≤ i → 1 ≤ (iP l i).length
  | 0, h => absurd h (by decide)
  | i + 1, _ => by
    rw [iP]; split
    · rename_i hn
      cases e : iP l i with
      | nil => rw [e] at hn; cases hn
      | cons a r => rw [List.length_cons]; omega
    · rw [List.length_append, List.length_singleton]; omega
theorem k9o {ms : List (List Int)} (h : MsV ms) (h1 : 1 ≤ ms.length) (h2 : ms.length ≤ 16) : nI ms = true := by
  refine wX h1 h2 fun i hi => k63 ?_ ?_
  · rw [show List.getD ms i [] = ms[i] by rw [List.getD_eq_getElem?_getD, List.getElem?_eq_getElem hi]; rfl]
    exact h.1 _ (List.getElem_mem hi)
  · rw [show List.getD ms i [] = ms[i] by rw [List.getD_eq_getElem?_getD, List.getElem?_eq_getElem hi]; rfl]
    refine decide_eq_false fun hm => ?_
    obtain ⟨j, hj, e⟩ := List.mem_iff_getElem.1 hm
    rw [List.length_take] at hj
    rw [List.getElem_take] at e
    exact List.pairwise_iff_getElem.1 h.2 j i (by omega) hi (by omega) e
/-! boxes -/
theorem u3p : SpB rtT 5 1000 768000 := ⟨rfl, by decide⟩
theorem u3g : SpB szT 4 1 65536 := ⟨rfl, by decide⟩
theorem tA {l : List Int} {n : Nat} {lo hi : Int} (h : e8 l n lo hi = true) : iL l n = true ∧ spS l n = l ∧ spN l n = n ∧ 1 ≤ n := by
  unfold e8 at h
  rw [Bool.and_eq_true, decide_eq_true_iff] at h
  exact ⟨h.1, (u0c h.1).1, (u0c h.1).2, h.2.1⟩
theorem k9p {ms : List (List Int)} (h : nI ms = true) : 1 ≤ ms.length := (of_decide_eq_true h).1
attribute [local irreducible] y2 uY yY bF yF kB kA uL iM aR iQ iP knK e8 nI
theorem k96 {l : List Int} (h : Byt l) : eX (boX l).k (boX l).r (boX l).rn (boX l).m (boX l).s (boX l).sn = true := by
  have b1 : Byt (bo1 l) := kF _ (kF _ h)
  have b2 : Byt (bo2 l) := yU b1 _
  have b3 : Byt (bo3 l) := y5 b2
  have b4 : Byt (bo4 l) := y5 b3
  have b5 : Byt (bo5 l) := kF _ b4
  have n1 := kO (qP (bo2 l) 5) 5 (yE b2 5)
  have n2 := kO (qP (bo3 l) 4) 4 (yE b3 4)
  have n3 := kO (bo4 l) 3 b4
  obtain ⟨r1, r2, r3⟩ := k69 u3p (by decide) (bo2 l) (by show kB _ 5 < 5; omega)
  obtain ⟨s1, s2, s3⟩ := k69 u3g (by decide) (bo3 l) (by show kB _ 4 < 4; omega)
  have m1 := u19 (bo5 l) (boN l) (by unfold boN; omega)
  have m2 := r9 (bo5 l) (boN l)
  have m3 : boN l ≤ 3 := by unfold boN; omega
  show eX (pR l) (pQ l) (nU l) (fJ l) (pP l) (nT l) = true
  unfold pQ nU fJ pP nT
  exact u25 (k70 h).ok.1 (k6d r3 r1 (by omega) (by decide) (by decide)) (k9o (u18 b5 _) m1 (by omega)) (k6d s3 s1 (by omega) (by decide) (by decide))
def BxV (b : Bx) : Prop := BxW b ∧ KG b.k ∧ eX b.k b.r b.rn b.m b.s b.sn = true
def BsV (bs : List Bx) : Prop := ∀ b ∈ bs, BxV b
theorem pM {k : Int} {r : List Int} {rn : Nat} {m : List (List Int)} {s : List Int} {sn : Nat} (h : eX k r rn m s sn = true) : (¬ k = 0 ∧ iT k = 0) ∧ e8 r rn 1000 768000 = true ∧ nI m = true ∧ e8 s sn 1 65536 = true := by
  unfold eX at h
  rw [Bool.and_eq_true, Bool.and_eq_true, Bool.and_eq_true, decide_eq_true_iff] at h
  exact h
theorem BxV.g {b : Bx} (h : BxV b) : BxG b := by
  obtain ⟨h1, h2, h3⟩ := h
  obtain ⟨_, p2, p3, p4⟩ := pM h3
  obtain ⟨_, _, r3, r4⟩ := tA p2
  obtain ⟨_, _, s3, s4⟩ := tA p4
  exact ⟨h1, by omega, by omega, k9p p3, h2.ok.2⟩
theorem BsV.g {bs : List Bx} (h : BsV bs) : BsG bs := fun b hb => (h b hb).g
theorem BsV.w {bs : List Bx} (h : BsV bs) : BsW bs := fun b hb => (h b hb).1
theorem BsV.vb {bs : List Bx} (h : BsV bs) (hn : bs.length ≤ 64) : lI bs = true := k9t hn fun i hi => (h _ (dU hi)).2.2
theorem BsV.eq {bs : List Bx} (h : BsV bs) (hn : bs.length ≤ 64) : bxL bs = bs := u26 (h.vb hn)
theorem BsV.nil : BsV [] := fun b hb => by cases hb
theorem BsV.app {a b : List Bx} (h : BsV a) (h2 : BsV b) : BsV (a ++ b) := fun m hm => (List.mem_append.1 hm).elim (h m) (h2 m)
theorem BsV.one {b : Bx} (h : BxV b) : BsV [b] := fun m hm => by rw [List.mem_singleton.1 hm]; exact h
theorem BsV.box {xs : List Bx} (h : BsV xs) {i : Nat} (hi : i < xs.length) : BxV (bT (cE xs i) (c9 xs i) (vZ xs i) (vH xs i) (fN xs i) (cD xs i)) := h _ (dU hi)
theorem k71 {l : List Int} (h : Byt l) : ∀ i, BsV (bbL l i)
  | 0 => BsV.nil
  | i + 1 => (k71 h i).app (BsV.one ⟨k6z _, k70 (dW h i), k96 (dW h i)⟩)
end Go.Proofs.Ytalbpleglapihaa
