/- Merged texts. -/
import Derived.Test.YtalbpleglapihaaZL10M
import Derived.Test.YtalbpleglapihaaZL10G
namespace Go.Proofs.Ytalbpleglapihaa
open Go.ChangeShapes Go.WideShapes Go.ChangeAt Go.RowKit
set_option linter.unusedVariables false
set_option linter.unusedSimpArgs false
def BxG (b : Bx) : Prop := BxW b ∧ 1 ≤ spN b.r b.rn ∧ 1 ≤ spN b.s b.sn ∧ 1 ≤ List.length b.m ∧ ∃ q, 1 ≤ q ∧ q ≤ 7 ∧ kiB b.k q = true
def BsG (bs : List Bx) : Prop := ∀ b ∈ bs, BxG b
theorem eA {bs : List Bx} {i : Nat} (h : i < bs.length) : fF bs i ∈ bs := by
  unfold fF; rw [List.getD_eq_getElem?_getD, List.getElem?_eq_getElem h]; exact List.getElem_mem _
end Go.Proofs.Ytalbpleglapihaa
namespace Go.Proofs.Ytalbpleglapihaa
open Go.ChangeShapes Go.WideShapes Go.ChangeAt Go.RowKit
set_option linter.unusedVariables false
set_option linter.unusedSimpArgs false
/-! chapter 10: boxes out of dice are valid -/
theorem k6q (l : List Int) (h : Byt l) : ∃ q : Nat, 1 ≤ q ∧ q ≤ 7 ∧ kbV l = ((2 ^ q : Nat) : Int) := by
  have h2 := kO l 7 h
  refine ⟨1 + kB l 7, by omega, by omega, ?_⟩
  unfold kbV
  have h3 : kB l 7 < 7 := by omega
  generalize kB l 7 = n at *
  match n, h3 with
  | 0, _ => rfl
  | 1, _ => rfl
  | 2, _ => rfl
  | 3, _ => rfl
  | 4, _ => rfl
  | 5, _ => rfl
  | 6, _ => rfl
def KG (k : Int) : Prop := 2 ≤ k ∧ k ≤ 254 ∧ k % 2 = 0
def orC : Bool := (List.range 127).all fun n => (List.range 7).all fun q => decide (2 ≤ zP (2 * (n : Int) + 2) ((2 ^ (q + 1) : Nat) : Int) ∧ zP (2 * (n : Int) + 2) ((2 ^ (q + 1) : Nat) : Int) ≤ 254 ∧ zP (2 * (n : Int) + 2) ((2 ^ (q + 1) : Nat) : Int) % 2 = 0)
theorem u1d : orC = true := by kernel_rfl
theorem KG.or {k : Int} (h : KG k) {q : Nat} (h1 : 1 ≤ q) (h2 : q ≤ 7) : KG (zP k ((2 ^ q : Nat) : Int)) := by
  unfold KG at h
  obtain ⟨n, rfl⟩ : ∃ n : Nat, k = 2 * (n : Int) + 2 := ⟨((k - 2) / 2).toNat, by omega⟩
  obtain ⟨r, rfl⟩ : ∃ r, q = r + 1 := ⟨q - 1, by omega⟩
  have h9 := List.all_eq_true.1 (List.all_eq_true.1 u1d n (List.mem_range.2 (by omega))) r (List.mem_range.2 (by omega))
  have h8 := of_decide_eq_true h9
  exact h8
theorem KG.one {q : Nat} (h1 : 1 ≤ q) (h2 : q ≤ 7) : KG ((2 ^ q : Nat) : Int) := by
  match q, h1, h2 with
  | 1, _, _ => exact ⟨by decide, by decide, by decide⟩
  | 2, _, _ => exact ⟨by decide, by decide, by decide⟩
  | 3, _, _ => exact ⟨by decide, by decide, by decide⟩
  | 4, _, _ => exact ⟨by decide, by decide, by decide⟩
  | 5, _, _ => exact ⟨by decide, by decide, by decide⟩
  | 6, _, _ => exact ⟨by decide, by decide, by decide⟩
  | 7, _, _ => exact ⟨by decide, by decide, by decide⟩
theorem u1v {l : List Int} {k : Int} (hl : Byt l) (hk : KG k) : ∀ i, KG (knK l k i)
  | 0 => hk
  | i + 1 => by
    obtain ⟨q, h1, h2, e⟩ := k6q (aT l i) (yX hl i)
    show KG (zP (knK l k i) (kbV (aT l i)))
    rw [e]; exact (u1v hl hk i).or h1 h2
theorem k79 {l : List Int} (h : Byt l) : KG (pV l) := by
  unfold pV bo1
  obtain ⟨q, h1, h2, e⟩ := k6q l h
  rw [e]; exact u1v (kF _ (kF _ h)) (KG.one h1 h2) _
def kgC : Bool := (List.range 127).all fun n => decide (i5 (2 * (n : Int) + 2) = 0) && (List.range 7).any fun q => decide (odV ((2 * (n : Int) + 2) / ((2 ^ (q + 1) : Nat) : Int)) = 1)
theorem u1w : kgC = true := by kernel_rfl
theorem KG.ok {k : Int} (h : KG k) : (¬ k = 0 ∧ i5 k = 0) ∧ ∃ q, 1 ≤ q ∧ q ≤ 7 ∧ kiB k q = true := by
  unfold KG at h
  obtain ⟨n, rfl⟩ : ∃ n : Nat, k = 2 * (n : Int) + 2 := ⟨((k - 2) / 2).toNat, by omega⟩
  have h1 := List.all_eq_true.1 u1w n (List.mem_range.2 (by omega))
  rw [Bool.and_eq_true, decide_eq_true_iff] at h1
  obtain ⟨q, hq, h2⟩ := List.any_eq_true.1 h1.2
  have hq := List.mem_range.1 hq
  exact ⟨⟨by omega, h1.1⟩, q + 1, by omega, by omega, decide_eq_true ⟨by omega, by omega, of_decide_eq_true h2⟩⟩
/-! sets -/
def SpB (l : List Int) (n : Nat) (lo hi : Int) : Prop := l.length = n * 2 ∧ ∀ p ∈ uH l, lo ≤ p.1 ∧ p.1 ≤ p.2 ∧ p.2 ≤ hi
theorem k4i (a b : Int) : uH [a, b] = [(a, b)] := rfl
theorem k6g {sp : List Int} {n : Nat} {lo hi : Int} (h : SpB sp n lo hi) (l : List Int) : ∀ i, i ≤ n → ∃ k, k ≤ i ∧ SpB (l1 sp l i) k lo hi
  | 0, _ => ⟨0, Nat.le_refl _, rfl, fun p hp => by cases hp⟩
  | i + 1, hi_ => by
    obtain ⟨k, hk, hl, hb⟩ := k6g h l i zo
    rw [l1]; split
    · refine ⟨k + 1, by omega, by rw [List.length_append]; simp only [List.length_cons, List.length_nil]; omega, fun p hp => ?_⟩
      rw [oH hl] at hp
      rcases List.mem_append.1 hp with hp | hp
      · exact hb p hp
      · rw [List.mem_singleton.1 hp]; exact h.2 _ ((bA h.1).2 ⟨i, by omega, rfl⟩)
    · exact ⟨k, by omega, hl, hb⟩
theorem k6i {sp : List Int} {n : Nat} {lo hi : Int} (h : SpB sp n lo hi) (h1 : 1 ≤ n) (l : List Int) (hl : kB (qP l n) (n : Int) < n) : 1 ≤ y1 sp l n ∧ y1 sp l n ≤ n ∧ SpB (y3 sp l n) (y1 sp l n) lo hi := by
  obtain ⟨k, hk, h2, h3⟩ := k6g h l n (Nat.le_refl _)
  by_cases e : l1 sp l n = []
  · have e1 : y3 sp l n = [List.getD sp (kB (qP l n) (n : Int) * 2) 0, List.getD sp (kB (qP l n) (n : Int) * 2 + 1) 0] := if_pos e
    have e2 : y1 sp l n = 1 := by simp [y1, e1]
    rw [e2, e1]
    refine ⟨Nat.le_refl _, h1, rfl, fun p hp => ?_⟩
    rw [k4i] at hp
    rw [List.mem_singleton.1 hp]; exact h.2 _ ((bA h.1).2 ⟨_, hl, rfl⟩)
  · have e1 : y3 sp l n = l1 sp l n := if_neg e
    have e2 : y1 sp l n = k := by unfold y1; rw [e1, h2]; omega
    have hk0 : k ≠ 0 := fun e3 => e (List.eq_nil_of_length_eq_zero (by omega))
    rw [e2, e1]
    exact ⟨by omega, hk, h2, h3⟩
theorem k8k {l : List Int} {n : Nat} (hl : l.length = n * 2) (hr : RG l n) (z : Int) : cD (uH (nU l)) z ↔ cD (uH l) z := by
  unfold nU; rw [sB]; exact (k14 (hr.v hl)).2.1 z
theorem k6n {l : List Int} {n : Nat} {lo hi : Int} (h : SpB l n lo hi) (h1 : 1 ≤ n) (h2 : n ≤ 64) (hlo : 0 ≤ lo) (hhi : hi ≤ 2147483647) : fJ (bH l n) (yG l n) lo hi = true := by
  obtain ⟨hl, hb⟩ := h
  have hr : RG l n := k7d hl fun p hp => by have := hb p hp; unfold fP; omega
  have hj := k6r hl hr
  obtain ⟨_, e1, e2⟩ := wK (gT.2 hr) zo
  have hva := k8i hl
  have hlen := sO l
  have hok : iY (uH (nU l)) := by rw [← e1]; exact k15 hl
  have hme : ∀ z, cD (uH (nU l)) z ↔ cD (uH l) z := k8k hl hr
  rw [e1, e2] at *
  have hsv : ∀ p ∈ uH (nU l), lo ≤ p.1 ∧ p.1 ≤ p.2 ∧ p.2 ≤ hi := fun p hp => by
    have hv := k0v hok p hp
    unfold fP at hv
    obtain ⟨q, hq, q1⟩ := (hme p.1).1 ⟨p, hp, by omega⟩
    obtain ⟨r, hr_, r1⟩ := (hme p.2).1 ⟨p, hp, by omega⟩
    have b1 := hb q hq; have b2 := hb r hr_
    omega
  have hn : 1 ≤ hY l := by
    have hm : (List.getD l (0 * 2) 0, List.getD l (0 * 2 + 1) 0) ∈ uH l := (bA hl).2 ⟨0, by omega, rfl⟩
    have b1 := hb _ hm
    obtain ⟨q, hq, _⟩ := (hme (List.getD l (0 * 2) 0)).2 ⟨_, hm, by simp only at b1 ⊢; omega⟩
    have : 0 < (uH (nU l)).length := List.length_pos_of_mem hq
    rw [uK hlen] at this; exact this
  have f1 := hsv _ ((bA hlen).2 ⟨0, by omega, rfl⟩)
  have f2 := hsv _ ((bA hlen).2 ⟨hY l - 1, by omega, rfl⟩)
  exact k9v hva ⟨hn, f1.1, f2.2.2⟩
/-! maps -/
theorem u1m : ∀ m ∈ hJ, i4 m m.length = true := by decide
theorem k8g {l : List Int} (h : Byt l) : uL l ∈ hJ := by
  have h2 := kO l 7 h
  have h3 : kB l 7 < hJ.length := by show _ < 7; omega
  unfold uL
  rw [List.getD_eq_getElem?_getD, List.getElem?_eq_getElem h3]; exact List.getElem_mem h3
theorem k7q {ms : List (List Int)} {m : List Int} (h : iW ms m = false) : m ∉ ms := fun hm => by
  have : iW ms m = true := List.any_eq_true.2 ⟨m, hm, decide_eq_true ⟨rfl, rfl⟩⟩
  rw [this] at h; cases h
def MsV (ms : List (List Int)) : Prop := (∀ m ∈ ms, i4 m m.length = true) ∧ ms.Pairwise fun a b => a ≠ b
theorem u1j {l : List Int} (h : Byt l) : ∀ i, MsV (iZ l i)
  | 0 => ⟨fun m hm => (by cases hm), List.Pairwise.nil⟩
  | i + 1 => by
    obtain ⟨h1, h2⟩ := u1j h i
    rw [iZ]; split
    · exact ⟨h1, h2⟩
    · rename_i hn
      have hn : iW (iZ l i) (uL (i0 l i)) = false := by simpa using hn
      refine ⟨fun m hm => ?_, List.pairwise_append.2 ⟨h2, List.pairwise_singleton .., fun a ha b hb => ?_⟩⟩
      · rcases List.mem_append.1 hm with hm | hm
        · exact h1 m hm
        · rw [List.mem_singleton.1 hm]; exact u1m _ (k8g (dN h i))
      · rw [List.mem_singleton.1 hb]; intro e; exact k7q hn (e ▸ ha)
theorem u1k (l : List Int) : ∀ i, 1 ≤ i → 1 ≤ (iZ l i).length
  | 0, h => absurd h (by decide)
  | i + 1, _ => by
    rw [iZ]; split
    · rename_i hn
      cases e : iZ l i with
      | nil => rw [e] at hn; cases hn
      | cons a r => rw [List.length_cons]; omega
    · rw [List.length_append, List.length_singleton]; omega
theorem k9x {ms : List (List Int)} (h : MsV ms) (h1 : 1 ≤ ms.length) (h2 : ms.length ≤ 16) : nR ms = true := by
  refine xB h1 h2 fun i hi => k6c ?_ ?_
  · rw [show List.getD ms i [] = ms[i] by rw [List.getD_eq_getElem?_getD, List.getElem?_eq_getElem hi]; rfl]
    exact h.1 _ (List.getElem_mem hi)
  · rw [show List.getD ms i [] = ms[i] by rw [List.getD_eq_getElem?_getD, List.getElem?_eq_getElem hi]; rfl]
    refine decide_eq_false fun hm => ?_
    obtain ⟨j, hj, e⟩ := List.mem_iff_getElem.1 hm
    rw [List.length_take] at hj
    rw [List.getElem_take] at e
    exact List.pairwise_iff_getElem.1 h.2 j i (by omega) hi (by omega) e
/-! boxes -/
theorem u40 : SpB rtT 5 1000 768000 := ⟨rfl, by decide⟩
theorem u3p : SpB szT 4 1 65536 := ⟨rfl, by decide⟩
theorem tK {l : List Int} {n : Nat} {lo hi : Int} (h : fJ l n lo hi = true) : iU l n = true ∧ spS l n = l ∧ spN l n = n ∧ 1 ≤ n := by
  unfold fJ at h
  rw [Bool.and_eq_true, decide_eq_true_iff] at h
  exact ⟨h.1, (u0o h.1).1, (u0o h.1).2, h.2.1⟩
theorem k9y {ms : List (List Int)} (h : nR ms = true) : 1 ≤ ms.length := (of_decide_eq_true h).1
attribute [local irreducible] y3 uZ y1 bH yG kB kA uL iW aT i0 iZ knK fJ nR
theorem k9g {l : List Int} (h : Byt l) : fG (boX l).k (boX l).r (boX l).rn (boX l).m (boX l).s (boX l).sn = true := by
  have b1 : Byt (bo1 l) := kF _ (kF _ h)
  have b2 : Byt (bo2 l) := yX b1 _
  have b3 : Byt (bo3 l) := y6 b2
  have b4 : Byt (bo4 l) := y6 b3
  have b5 : Byt (bo5 l) := kF _ b4
  have n1 := kO (qP (bo2 l) 5) 5 (yF b2 5)
  have n2 := kO (qP (bo3 l) 4) 4 (yF b3 4)
  have n3 := kO (bo4 l) 3 b4
  obtain ⟨r1, r2, r3⟩ := k6i u40 (by decide) (bo2 l) (by show kB _ 5 < 5; omega)
  obtain ⟨s1, s2, s3⟩ := k6i u3p (by decide) (bo3 l) (by show kB _ 4 < 4; omega)
  have m1 := u1k (bo5 l) (boN l) (by unfold boN; omega)
  have m2 := sM (bo5 l) (boN l)
  have m3 : boN l ≤ 3 := by unfold boN; omega
  show fG (pV l) (pU l) (nY l) (fT l) (pT l) (nX l) = true
  unfold pU nY fT pT nX
  exact u2c (k79 h).ok.1 (k6n r3 r1 (by omega) (by decide) (by decide)) (k9x (u1j b5 _) m1 (by omega)) (k6n s3 s1 (by omega) (by decide) (by decide))
def BxV (b : Bx) : Prop := BxW b ∧ KG b.k ∧ fG b.k b.r b.rn b.m b.s b.sn = true
def BsV (bs : List Bx) : Prop := ∀ b ∈ bs, BxV b
theorem pQ {k : Int} {r : List Int} {rn : Nat} {m : List (List Int)} {s : List Int} {sn : Nat} (h : fG k r rn m s sn = true) : (¬ k = 0 ∧ i5 k = 0) ∧ fJ r rn 1000 768000 = true ∧ nR m = true ∧ fJ s sn 1 65536 = true := by
  unfold fG at h
  rw [Bool.and_eq_true, Bool.and_eq_true, Bool.and_eq_true, decide_eq_true_iff] at h
  exact h
theorem BxV.g {b : Bx} (h : BxV b) : BxG b := by
  obtain ⟨h1, h2, h3⟩ := h
  obtain ⟨_, p2, p3, p4⟩ := pQ h3
  obtain ⟨_, _, r3, r4⟩ := tK p2
  obtain ⟨_, _, s3, s4⟩ := tK p4
  exact ⟨h1, by omega, by omega, k9y p3, h2.ok.2⟩
theorem BsV.g {bs : List Bx} (h : BsV bs) : BsG bs := fun b hb => (h b hb).g
theorem BsV.w {bs : List Bx} (h : BsV bs) : BsW bs := fun b hb => (h b hb).1
theorem BsV.vb {bs : List Bx} (h : BsV bs) (hn : bs.length ≤ 64) : lR bs = true := u02 hn fun i hi => (h _ (eA hi)).2.2
theorem BsV.eq {bs : List Bx} (h : BsV bs) (hn : bs.length ≤ 64) : bxL bs = bs := u2d (h.vb hn)
theorem BsV.nil : BsV [] := fun b hb => by cases hb
theorem BsV.app {a b : List Bx} (h : BsV a) (h2 : BsV b) : BsV (a ++ b) := fun m hm => (List.mem_append.1 hm).elim (h m) (h2 m)
theorem BsV.one {b : Bx} (h : BxV b) : BsV [b] := fun m hm => by rw [List.mem_singleton.1 hm]; exact h
theorem BsV.box {xs : List Bx} (h : BsV xs) {i : Nat} (hi : i < xs.length) : BxV (bX (cL xs i) (dF xs i) (vZ xs i) (vI xs i) (fW xs i) (cK xs i)) := h _ (eA hi)
theorem k7a {l : List Int} (h : Byt l) : ∀ i, BsV (bbL l i)
  | 0 => BsV.nil
  | i + 1 => (k7a h i).app (BsV.one ⟨k78 _, k79 (eC h i), k9g (eC h i)⟩)
end Go.Proofs.Ytalbpleglapihaa
