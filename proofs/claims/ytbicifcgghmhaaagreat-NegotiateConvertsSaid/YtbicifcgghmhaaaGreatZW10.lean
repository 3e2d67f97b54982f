/- Merged texts. -/
import Derived.Test.YtbicifcgghmhaaaGreatZL10M
import Derived.Test.YtbicifcgghmhaaaGreatZL10G
namespace Go.Proofs.YtbicifcgghmhaaaGreat
open Go.ChangeShapes Go.WideShapes Go.ChangeAt Go.RowKit
set_option linter.unusedVariables false
set_option linter.unusedSimpArgs false
/-! chapter 10: the best choice is in the list, and no other one is better -/
theorem k6i {a b : Int} (h1 : a ≤ 0) (h2 : b ≤ 0) : yC a b ≤ 0 := by unfold yC; split <;> assumption
theorem k3j (b w : Int) : ∀ j, (cE b w j = 0 ∧ ∀ q, 1 ≤ q → q ≤ j → jR b q = false) ∨ (∃ q : Nat, 1 ≤ q ∧ q ≤ j ∧ cE b w j = (q : Int) ∧ jR b q = true ∧ ∀ p : Nat, 1 ≤ p → p ≤ j → jR b p = true → c7 w (q : Int) (p : Int) ≤ 0)
  | 0 => .inl ⟨rfl, fun q h1 h2 => by omega⟩
  | j + 1 => by
    have ih := k3j b w j
    cases hk : jR b (j + 1) with
    | false =>
      have e : cE b w (j + 1) = cE b w j := u0a rfl hk
      rw [e]
      rcases ih with ⟨h1, h2⟩ | ⟨q, h1, h2, h3, h4, h5⟩
      · refine .inl ⟨h1, fun q h3 h4 => ?_⟩
        by_cases e2 : q = j + 1
        · rw [e2]; exact hk
        · exact h2 q h3 (by omega)
      · refine .inr ⟨q, h1, by omega, h3, h4, fun p h6 h7 h8 => ?_⟩
        by_cases e2 : p = j + 1
        · rw [e2, hk] at h8; cases h8
        · exact h5 p h6 (by omega) h8
    | true =>
      rcases ih with ⟨h1, h2⟩ | ⟨q, h1, h2, h3, h4, h5⟩
      · refine .inr ⟨j + 1, by omega, Nat.le_refl _, by rw [k4t rfl hk (.inl h1) rfl]; omega, hk, fun p h6 h7 h8 => ?_⟩
        by_cases e2 : p = j + 1
        · rw [e2]; exact Int.le_of_eq ((mJ w).zero _)
        · rw [h2 p h6 (by omega)] at h8; cases h8
      · by_cases hc : c7 w ((j : Int) + 1) (cE b w j) < 0
        · refine .inr ⟨j + 1, by omega, Nat.le_refl _, by rw [k4t rfl hk (.inr hc) rfl]; omega, hk, fun p h6 h7 h8 => ?_⟩
          by_cases e2 : p = j + 1
          · rw [e2]; exact Int.le_of_eq ((mJ w).zero _)
          · rw [h3] at hc
            exact (mJ w).tr _ (q : Int) _ (by rw [show ((j + 1 : Nat) : Int) = (j : Int) + 1 by omega]; omega) (h5 p h6 (by omega) h8)
        · refine .inr ⟨q, h1, by omega, by rw [u09 rfl (by omega) hc]; exact h3, h4, fun p h6 h7 h8 => ?_⟩
          by_cases e2 : p = j + 1
          · rw [h3] at hc
            have := (mJ w).anti (q : Int) ((j : Int) + 1)
            rw [e2, show ((j + 1 : Nat) : Int) = (j : Int) + 1 by omega]; omega
          · exact h5 p h6 (by omega) h8
theorem k3i (w : List Int) (ms : List (List Int)) : ∀ j, 1 ≤ j → j ≤ ms.length → fC w ms j ∈ ms ∧ ∀ i, i < j → c6 w (fC w ms j) (List.getD ms i []) ≤ 0
  | 0, h, _ => absurd h (by decide)
  | j + 1, _, hj => by
    have hm : List.getD ms j [] ∈ ms := by
      rw [List.getD_eq_getElem?_getD, List.getElem?_eq_getElem (by omega : j < ms.length)]; exact List.getElem_mem _
    by_cases h0 : j = 0
    · subst h0
      rw [v29 (w := w) (ms := ms) rfl]
      refine ⟨hm, fun i hi => ?_⟩
      obtain rfl : i = 0 := by omega
      exact Int.le_of_eq ((mH w).zero _)
    · obtain ⟨h1, h2⟩ := k3i w ms j zo zo
      by_cases hc : c6 w (List.getD ms j []) (fC w ms j) < 0
      · rw [u8l rfl hc rfl]
        refine ⟨hm, fun i hi => ?_⟩
        by_cases e : i = j
        · rw [e]; exact Int.le_of_eq ((mH w).zero _)
        · exact (mH w).tr _ _ _ (by omega) (h2 i (by omega))
      · rw [u8m rfl h0 hc]
        refine ⟨h1, fun i hi => ?_⟩
        by_cases e : i = j
        · have := (mH w).anti (fC w ms j) (List.getD ms j [])
          rw [e]; omega
        · exact h2 i (by omega)
theorem k2q {z : Int} {l : List Int} {n : Nat} (hl : l.length = n * 2) (h1 : 1 ≤ qA l n) : bM (kB l n) (vG z (kB l n)) = true ∧ ∀ x, bM (kB l n) x = true → cC z (vG z (kB l n)) x ≤ 0 := by
  have hok := uQ hl
  have hlen := uF (qC hl)
  unfold vG
  generalize hs : qX (kB l n) = s at *
  cases s with
  | nil => simp only [List.length_nil] at hlen; omega
  | cons p r =>
    have hp := hok.1
    unfold dW at hp
    have hc : p.1 ≤ iH z p ∧ iH z p ≤ p.2 := by unfold iH; omega
    have h0 : nrP z (p :: r) none = nrP z r (some (iH z p)) := rfl
    obtain ⟨w, hw⟩ := sO z r (iH z p)
    obtain ⟨i1, i2, i3⟩ := sP z r (iH z p) w hok.2.2 (fun q hq => by have := hok.2.1 q hq; omega) hw
    rw [h0, hw]
    show bM (kB l n) w = true ∧ ∀ x, bM (kB l n) x = true → cC z w x ≤ 0
    refine ⟨vJ.2 (by rw [hs]; exact q6.2 (i1.imp (fun e => by rw [e]; exact hc) id)), fun x hx => ?_⟩
    have hx := vJ.1 hx
    rw [hs] at hx
    have hd : aQ w z < aQ x z ∨ (aQ w z = aQ x z ∧ w ≤ x) := by
      rcases q6.1 hx with hx | hx
      · have := tO hp.2.1 z x hx
        rcases this with h9 | h9 | h9
        · omega
        · rw [← h9]; omega
        · omega
      · exact i3 x hx
    have a1 : dU z w = aQ w z := by unfold dU aQ; (repeat' split) <;> omega
    have a2 : dU z x = aQ x z := by unfold dU aQ; (repeat' split) <;> omega
    unfold cC yC yD
    rw [a1, a2]
    (repeat' split) <;> omega
def BxG (b : Bx) : Prop := BxW b ∧ 1 ≤ qA b.r b.rn ∧ 1 ≤ qA b.s b.sn ∧ 1 ≤ List.length b.m ∧ ∃ q, 1 ≤ q ∧ q ≤ 7 ∧ jR b.k q = true
theorem tW {b : Bx} (h : BxG b) (w : Co) : gF b.k b.r b.rn b.m b.s b.sn (bxC b w).k (bxC b w).r (bxC b w).m (bxC b w).s = true ∧ ∀ c : Co, gF b.k b.r b.rn b.m b.s b.sn c.k c.r c.m c.s = true → coV w (bxC b w) c ≤ 0 := by
  obtain ⟨⟨hr, hs, _⟩, h1, h2, h3, q, q1, q2, q3⟩ := h
  obtain ⟨r1, r2⟩ := k2q (z := w.r) hr h1
  obtain ⟨s1, s2⟩ := k2q (z := w.s) hs h2
  obtain ⟨m1, m2⟩ := k3i w.m b.m b.m.length h3 (Nat.le_refl _)
  rcases k3j b.k w.k 7 with ⟨_, k2⟩ | ⟨p, p1, p2, p3, p4, p5⟩
  · rw [k2 q q1 q2] at q3; cases q3
  · have ek : (bxC b w).k = (p : Int) := p3
    refine ⟨v2c (by rw [ek, u7f]; exact p4) r1 (decide_eq_true m1) s1, fun c hc => ?_⟩
    unfold gF at hc
    rw [Bool.and_eq_true, Bool.and_eq_true, Bool.and_eq_true] at hc
    obtain ⟨c1, c2, c3, c4⟩ := hc
    unfold kjB at c1
    rw [Bool.and_eq_true, decide_eq_true_iff] at c1
    refine k6i ?_ (k6i (r2 _ c2) (k6i ?_ (s2 _ c4)))
    · rw [ek]
      have := p5 c.k.toNat (by omega) (by omega) c1.2
      rw [show ((c.k.toNat : Nat) : Int) = c.k by omega] at this; exact this
    · obtain ⟨i, hi, e⟩ := List.mem_iff_getElem.1 (of_decide_eq_true c3)
      have := m2 i hi
      rw [show List.getD b.m i [] = c.m by rw [List.getD_eq_getElem?_getD, List.getElem?_eq_getElem hi]; exact e] at this
      exact this
def BsG (bs : List Bx) : Prop := ∀ b ∈ bs, BxG b
theorem uP {bs : List Bx} {i : Nat} (h : i < bs.length) : vC bs i ∈ bs := by
  unfold vC; rw [List.getD_eq_getElem?_getD, List.getElem?_eq_getElem h]; exact List.getElem_mem _
end Go.Proofs.YtbicifcgghmhaaaGreat
namespace Go.Proofs.YtbicifcgghmhaaaGreat
open Go.ChangeShapes Go.WideShapes Go.ChangeAt Go.RowKit
set_option linter.unusedVariables false
set_option linter.unusedSimpArgs false
/-! chapter 10: boxes out of dice are valid -/
theorem u4l (l : List Int) (h : Byt l) : ∃ q : Nat, 1 ≤ q ∧ q ≤ 7 ∧ kbV l = ((2 ^ q : Nat) : Int) := by
  have h2 := uK l 7 h
  refine ⟨1 + kA l 7, by omega, by omega, ?_⟩
  unfold kbV
  have h3 : kA l 7 < 7 := by omega
  generalize kA l 7 = n at *
  match n, h3 with
  | 0, _ => rfl
  | 1, _ => rfl
  | 2, _ => rfl
  | 3, _ => rfl
  | 4, _ => rfl
  | 5, _ => rfl
  | 6, _ => rfl
def KG (k : Int) : Prop := 2 ≤ k ∧ k ≤ 254 ∧ k % 2 = 0
def orC : Bool := (List.range 127).all fun n => (List.range 7).all fun q => decide (2 ≤ orI (2 * (n : Int) + 2) ((2 ^ (q + 1) : Nat) : Int) ∧ orI (2 * (n : Int) + 2) ((2 ^ (q + 1) : Nat) : Int) ≤ 254 ∧ orI (2 * (n : Int) + 2) ((2 ^ (q + 1) : Nat) : Int) % 2 = 0)
theorem v0o : orC = true := by kernel_rfl
theorem KG.or {k : Int} (h : KG k) {q : Nat} (h1 : 1 ≤ q) (h2 : q ≤ 7) : KG (orI k ((2 ^ q : Nat) : Int)) := by
  unfold KG at h
  obtain ⟨n, rfl⟩ : ∃ n : Nat, k = 2 * (n : Int) + 2 := ⟨((k - 2) / 2).toNat, by omega⟩
  obtain ⟨r, rfl⟩ : ∃ r, q = r + 1 := ⟨q - 1, by omega⟩
  have h9 := List.all_eq_true.1 (List.all_eq_true.1 v0o n (List.mem_range.2 (by omega))) r (List.mem_range.2 (by omega))
  have h8 := of_decide_eq_true h9
  exact h8
theorem KG.one {q : Nat} (h1 : 1 ≤ q) (h2 : q ≤ 7) : KG ((2 ^ q : Nat) : Int) := by
  match q, h1, h2 with
  | 1, _, _ => exact ⟨by decide, by decide, by decide⟩
  | 2, _, _ => exact ⟨by decide, by decide, by decide⟩
  | 3, _, _ => exact ⟨by decide, by decide, by decide⟩
  | 4, _, _ => exact ⟨by decide, by decide, by decide⟩
  | 5, _, _ => exact ⟨by decide, by decide, by decide⟩
  | 6, _, _ => exact ⟨by decide, by decide, by decide⟩
  | 7, _, _ => exact ⟨by decide, by decide, by decide⟩
theorem v17 {l : List Int} {k : Int} (hl : Byt l) (hk : KG k) : ∀ i, KG (knK l k i)
  | 0 => hk
  | i + 1 => by
    obtain ⟨q, h1, h2, e⟩ := u4l (d9 l i) (v8 hl i)
    show KG (orI (knK l k i) (kbV (d9 l i)))
    rw [e]; exact (v17 hl hk i).or h1 h2
theorem u5g {l : List Int} (h : Byt l) : KG (zQ l) := by
  unfold zQ bo1
  obtain ⟨q, h1, h2, e⟩ := u4l l h
  rw [e]; exact v17 (qR _ (qR _ h)) (KG.one h1 h2) _
def kgC : Bool := (List.range 127).all fun n => decide (lN (2 * (n : Int) + 2) = 0) && (List.range 7).any fun q => decide (e7 ((2 * (n : Int) + 2) / ((2 ^ (q + 1) : Nat) : Int)) = 1)
theorem v18 : kgC = true := by kernel_rfl
theorem KG.ok {k : Int} (h : KG k) : (¬ k = 0 ∧ lN k = 0) ∧ ∃ q, 1 ≤ q ∧ q ≤ 7 ∧ jR k q = true := by
  unfold KG at h
  obtain ⟨n, rfl⟩ : ∃ n : Nat, k = 2 * (n : Int) + 2 := ⟨((k - 2) / 2).toNat, by omega⟩
  have h1 := List.all_eq_true.1 v18 n (List.mem_range.2 (by omega))
  rw [Bool.and_eq_true, decide_eq_true_iff] at h1
  obtain ⟨q, hq, h2⟩ := List.any_eq_true.1 h1.2
  have hq := List.mem_range.1 hq
  exact ⟨⟨by omega, h1.1⟩, q + 1, by omega, by omega, decide_eq_true ⟨by omega, by omega, of_decide_eq_true h2⟩⟩
/-! sets -/
def SpB (l : List Int) (n : Nat) (lo hi : Int) : Prop := l.length = n * 2 ∧ ∀ p ∈ qX l, lo ≤ p.1 ∧ p.1 ≤ p.2 ∧ p.2 ≤ hi
theorem u1l (a b : Int) : qX [a, b] = [(a, b)] := rfl
theorem u3z {sp : List Int} {n : Nat} {lo hi : Int} (h : SpB sp n lo hi) (l : List Int) : ∀ i, i ≤ n → ∃ k, k ≤ i ∧ SpB (r7 sp l i) k lo hi
  | 0, _ => ⟨0, Nat.le_refl _, rfl, fun p hp => by cases hp⟩
  | i + 1, hi_ => by
    obtain ⟨k, hk, hl, hb⟩ := u3z h l i zo
    rw [r7]; split
    · refine ⟨k + 1, by omega, by rw [List.length_append]; simp only [List.length_cons, List.length_nil]; omega, fun p hp => ?_⟩
      rw [w8 hl] at hp
      rcases List.mem_append.1 hp with hp | hp
      · exact hb p hp
      · rw [List.mem_singleton.1 hp]; exact h.2 _ ((yO h.1).2 ⟨i, by omega, rfl⟩)
    · exact ⟨k, by omega, hl, hb⟩
theorem k23 {sp : List Int} {n : Nat} {lo hi : Int} (h : SpB sp n lo hi) (h1 : 1 ≤ n) (l : List Int) (hl : kA (uM l n) (n : Int) < n) : 1 ≤ aN sp l n ∧ aN sp l n ≤ n ∧ SpB (aS sp l n) (aN sp l n) lo hi := by
  obtain ⟨k, hk, h2, h3⟩ := u3z h l n (Nat.le_refl _)
  by_cases e : r7 sp l n = []
  · have e1 : aS sp l n = [List.getD sp (kA (uM l n) (n : Int) * 2) 0, List.getD sp (kA (uM l n) (n : Int) * 2 + 1) 0] := if_pos e
    have e2 : aN sp l n = 1 := by simp [aN, e1]
    rw [e2, e1]
    refine ⟨Nat.le_refl _, h1, rfl, fun p hp => ?_⟩
    rw [u1l] at hp
    rw [List.mem_singleton.1 hp]; exact h.2 _ ((yO h.1).2 ⟨_, hl, rfl⟩)
  · have e1 : aS sp l n = r7 sp l n := if_neg e
    have e2 : aN sp l n = k := by unfold aN; rw [e1, h2]; omega
    have hk0 : k ≠ 0 := fun e3 => e (List.eq_nil_of_length_eq_zero (by omega))
    rw [e2, e1]
    exact ⟨by omega, hk, h2, h3⟩
theorem u7b {l : List Int} {n : Nat} (hl : l.length = n * 2) (hr : RG l n) (z : Int) : cH (qX (wI l)) z ↔ cH (qX l) z := by
  unfold wI; rw [hY]; exact (k73 (hr.v hl)).2.1 z
theorem u4j {l : List Int} {n : Nat} {lo hi : Int} (h : SpB l n lo hi) (h1 : 1 ≤ n) (h2 : n ≤ 64) (hlo : 0 ≤ lo) (hhi : hi ≤ 2147483647) : eZ (eX l n) (vM l n) lo hi = true := by
  obtain ⟨hl, hb⟩ := h
  have hr : RG l n := RG.of hl fun p hp => by have := hb p hp; unfold dW; omega
  have hj := k7n hl hr
  obtain ⟨_, e1, e2⟩ := sS (lB.2 hr) zo
  have hva := u78 hl
  have hlen := k14 l
  have hok : cB (qX (wI l)) := by rw [← e1]; exact k76 hl
  have hme : ∀ z, cH (qX (wI l)) z ↔ cH (qX l) z := u7b hl hr
  rw [e1, e2] at *
  have hsv : ∀ p ∈ qX (wI l), lo ≤ p.1 ∧ p.1 ≤ p.2 ∧ p.2 ≤ hi := fun p hp => by
    have hv := dC hok p hp
    unfold dW at hv
    obtain ⟨q, hq, q1⟩ := (hme p.1).1 ⟨p, hp, by omega⟩
    obtain ⟨r, hr_, r1⟩ := (hme p.2).1 ⟨p, hp, by omega⟩
    have b1 := hb q hq; have b2 := hb r hr_
    omega
  have hn : 1 ≤ mK l := by
    have hm : (List.getD l (0 * 2) 0, List.getD l (0 * 2 + 1) 0) ∈ qX l := (yO hl).2 ⟨0, by omega, rfl⟩
    have b1 := hb _ hm
    obtain ⟨q, hq, _⟩ := (hme (List.getD l (0 * 2) 0)).2 ⟨_, hm, by simp only at b1 ⊢; omega⟩
    have : 0 < (qX (wI l)).length := List.length_pos_of_mem hq
    rw [uF hlen] at this; exact this
  have f1 := hsv _ ((yO hlen).2 ⟨0, by omega, rfl⟩)
  have f2 := hsv _ ((yO hlen).2 ⟨mK l - 1, by omega, rfl⟩)
  exact u6a hva ⟨hn, f1.1, f2.2.2⟩
/-! maps -/
theorem v10 : ∀ m ∈ nT, wK m m.length = true := by decide
theorem u77 {l : List Int} (h : Byt l) : yP l ∈ nT := by
  have h2 := uK l 7 h
  have h3 : kA l 7 < nT.length := by show _ < 7; omega
  unfold yP
  rw [List.getD_eq_getElem?_getD, List.getElem?_eq_getElem h3]; exact List.getElem_mem h3
theorem u6d {ms : List (List Int)} {m : List Int} (h : oH ms m = false) : m ∉ ms := fun hm => by
  have : oH ms m = true := List.any_eq_true.2 ⟨m, hm, decide_eq_true ⟨rfl, rfl⟩⟩
  rw [this] at h; cases h
def MsV (ms : List (List Int)) : Prop := (∀ m ∈ ms, wK m m.length = true) ∧ ms.Pairwise fun a b => a ≠ b
theorem v0x {l : List Int} (h : Byt l) : ∀ i, MsV (oI l i)
  | 0 => ⟨fun m hm => (by cases hm), List.Pairwise.nil⟩
  | i + 1 => by
    obtain ⟨h1, h2⟩ := v0x h i
    rw [oI]; split
    · exact ⟨h1, h2⟩
    · rename_i hn
      have hn : oH (oI l i) (yP (oJ l i)) = false := by simpa using hn
      refine ⟨fun m hm => ?_, List.pairwise_append.2 ⟨h2, List.pairwise_singleton .., fun a ha b hb => ?_⟩⟩
      · rcases List.mem_append.1 hm with hm | hm
        · exact h1 m hm
        · rw [List.mem_singleton.1 hm]; exact v10 _ (u77 (iZ h i))
      · rw [List.mem_singleton.1 hb]; intro e; exact u6d hn (e ▸ ha)
theorem v0y (l : List Int) : ∀ i, 1 ≤ i → 1 ≤ (oI l i).length
  | 0, h => absurd h (by decide)
  | i + 1, _ => by
    rw [oI]; split
    · rename_i hn
      cases e : oI l i with
      | nil => rw [e] at hn; cases hn
      | cons a r => rw [List.length_cons]; omega
    · rw [List.length_append, List.length_singleton]; omega
theorem u3v {ms : List (List Int)} (h : MsV ms) (h1 : 1 ≤ ms.length) (h2 : ms.length ≤ 16) : nB ms = true := by
  refine k3w h1 h2 fun i hi => u3w ?_ ?_
  · rw [show List.getD ms i [] = ms[i] by rw [List.getD_eq_getElem?_getD, List.getElem?_eq_getElem hi]; rfl]
    exact h.1 _ (List.getElem_mem hi)
  · rw [show List.getD ms i [] = ms[i] by rw [List.getD_eq_getElem?_getD, List.getElem?_eq_getElem hi]; rfl]
    refine decide_eq_false fun hm => ?_
    obtain ⟨j, hj, e⟩ := List.mem_iff_getElem.1 hm
    rw [List.length_take] at hj
    rw [List.getElem_take] at e
    exact List.pairwise_iff_getElem.1 h.2 j i (by omega) hi (by omega) e
/-! boxes -/
theorem u9v : SpB rtT 5 1000 768000 := ⟨rfl, by decide⟩
theorem u9k : SpB szT 4 1 65536 := ⟨rfl, by decide⟩
theorem fH {l : List Int} {n : Nat} {lo hi : Int} (h : eZ l n lo hi = true) : gK l n = true ∧ kB l n = l ∧ qA l n = n ∧ 1 ≤ n := by
  unfold eZ at h
  rw [Bool.and_eq_true, decide_eq_true_iff] at h
  exact ⟨h.1, (k0k h.1).1, (k0k h.1).2, h.2.1⟩
theorem k5b {ms : List (List Int)} (h : nB ms = true) : 1 ≤ ms.length := (of_decide_eq_true h).1
attribute [local irreducible] aS y9 aN eX vM kA kC yP oH d9 oJ oI knK eZ nB
theorem u8k {l : List Int} (h : Byt l) : gO (boX l).k (boX l).r (boX l).rn (boX l).m (boX l).s (boX l).sn = true := by
  have b1 : Byt (bo1 l) := qR _ (qR _ h)
  have b2 : Byt (bo2 l) := v8 b1 _
  have b3 : Byt (bo3 l) := aJ b2
  have b4 : Byt (bo4 l) := aJ b3
  have b5 : Byt (bo5 l) := qR _ b4
  have n1 := uK (uM (bo2 l) 5) 5 (y8 b2 5)
  have n2 := uK (uM (bo3 l) 4) 4 (y8 b3 4)
  have n3 := uK (bo4 l) 3 b4
  obtain ⟨r1, r2, r3⟩ := k23 u9v (by decide) (bo2 l) (by show kA _ 5 < 5; omega)
  obtain ⟨s1, s2, s3⟩ := k23 u9k (by decide) (bo3 l) (by show kA _ 4 < 4; omega)
  have m1 := v0y (bo5 l) (boN l) (by unfold boN; omega)
  have m2 := k12 (bo5 l) (boN l)
  have m3 : boN l ≤ 3 := by unfold boN; omega
  show gO (zQ l) (zP l) (wM l) (mA l) (zO l) (wL l) = true
  unfold zP wM mA zO wL
  exact u01 (u5g h).ok.1 (u4j r3 r1 (by omega) (by decide) (by decide)) (u3v (v0x b5 _) m1 (by omega)) (u4j s3 s1 (by omega) (by decide) (by decide))
def BxV (b : Bx) : Prop := BxW b ∧ KG b.k ∧ gO b.k b.r b.rn b.m b.s b.sn = true
def BsV (bs : List Bx) : Prop := ∀ b ∈ bs, BxV b
theorem bC {k : Int} {r : List Int} {rn : Nat} {m : List (List Int)} {s : List Int} {sn : Nat} (h : gO k r rn m s sn = true) : (¬ k = 0 ∧ lN k = 0) ∧ eZ r rn 1000 768000 = true ∧ nB m = true ∧ eZ s sn 1 65536 = true := by
  unfold gO at h
  rw [Bool.and_eq_true, Bool.and_eq_true, Bool.and_eq_true, decide_eq_true_iff] at h
  exact h
theorem BxV.g {b : Bx} (h : BxV b) : BxG b := by
  obtain ⟨h1, h2, h3⟩ := h
  obtain ⟨_, p2, p3, p4⟩ := bC h3
  obtain ⟨_, _, r3, r4⟩ := fH p2
  obtain ⟨_, _, s3, s4⟩ := fH p4
  exact ⟨h1, by omega, by omega, k5b p3, h2.ok.2⟩
theorem BsV.g {bs : List Bx} (h : BsV bs) : BsG bs := fun b hb => (h b hb).g
theorem BsV.w {bs : List Bx} (h : BsV bs) : BsW bs := fun b hb => (h b hb).1
theorem BsV.vb {bs : List Bx} (h : BsV bs) (hn : bs.length ≤ 64) : c8 bs = true := u9g hn fun i hi => (h _ (uP hi)).2.2
theorem BsV.eq {bs : List Bx} (h : BsV bs) (hn : bs.length ≤ 64) : kL bs = bs := u02 (h.vb hn)
theorem BsV.nil : BsV [] := fun b hb => by cases hb
theorem BsV.app {a b : List Bx} (h : BsV a) (h2 : BsV b) : BsV (a ++ b) := fun m hm => (List.mem_append.1 hm).elim (h m) (h2 m)
theorem BsV.one {b : Bx} (h : BxV b) : BsV [b] := fun m hm => by rw [List.mem_singleton.1 hm]; exact h
theorem BsV.box {xs : List Bx} (h : BsV xs) {i : Nat} (hi : i < xs.length) : BxV (kD (kT xs i) (qE xs i) (k9 xs i) (kW xs i) (qD xs i) (k8 xs i)) := h _ (uP hi)
theorem u5k {l : List Int} (h : Byt l) : ∀ i, BsV (bbL l i)
  | 0 => BsV.nil
  | i + 1 => (u5k h i).app (BsV.one ⟨u5f _, u5g (gG h i), u8k (gG h i)⟩)
end Go.Proofs.YtbicifcgghmhaaaGreat
