/- Merged texts. -/
import Derived.Test.YtcfmjpnffembpaaGreatZL10M
import Derived.Test.YtcfmjpnffembpaaGreatZL10G
namespace Go.Proofs.YtcfmjpnffembpaaGreat
open Go.ChangeShapes Go.WideShapes Go.ChangeAt Go.RowKit
set_option linter.unusedVariables false
set_option linter.unusedSimpArgs false
/-! chapter 10: the best choice is in the list, and no other one is better -/
theorem k72 {a b : Int} (h1 : a ≤ 0) (h2 : b ≤ 0) : u0 a b ≤ 0 := by unfold u0; split <;> assumption
theorem k4e (b w : Int) : ∀ j, (vI b w j = 0 ∧ ∀ q, 1 ≤ q → q ≤ j → jH b q = false) ∨ (∃ q : Nat, 1 ≤ q ∧ q ≤ j ∧ vI b w j = (q : Int) ∧ jH b q = true ∧ ∀ p : Nat, 1 ≤ p → p ≤ j → jH b p = true → vJ w (q : Int) (p : Int) ≤ 0)
  | 0 => .inl ⟨rfl, fun q h1 h2 => by omega⟩
  | j + 1 => by
    have ih := k4e b w j
    cases hk : jH b (j + 1) with
    | false =>
      have e : vI b w (j + 1) = vI b w j := xK rfl hk
      rw [e]
      rcases ih with ⟨h1, h2⟩ | ⟨q, h1, h2, h3, h4, h5⟩
      · refine .inl ⟨h1, fun q h3 h4 => ?_⟩
        by_cases e2 : q = j + 1
        · rw [e2]; exact hk
        · exact h2 q h3 (by omega)
      · refine .inr ⟨q, h1, by omega, h3, h4, fun p h6 h7 h8 => ?_⟩
        by_cases e2 : p = j + 1
        · rw [e2, hk] at h8; cases h8
        · exact h5 p h6 (by omega) h8
    | true =>
      rcases ih with ⟨h1, h2⟩ | ⟨q, h1, h2, h3, h4, h5⟩
      · refine .inr ⟨j + 1, by omega, Nat.le_refl _, by rw [rS rfl hk (.inl h1) rfl]; omega, hk, fun p h6 h7 h8 => ?_⟩
        by_cases e2 : p = j + 1
        · rw [e2]; exact Int.le_of_eq ((n8 w).zero _)
        · rw [h2 p h6 (by omega)] at h8; cases h8
      · by_cases hc : vJ w ((j : Int) + 1) (vI b w j) < 0
        · refine .inr ⟨j + 1, by omega, Nat.le_refl _, by rw [rS rfl hk (.inr hc) rfl]; omega, hk, fun p h6 h7 h8 => ?_⟩
          by_cases e2 : p = j + 1
          · rw [e2]; exact Int.le_of_eq ((n8 w).zero _)
          · rw [h3] at hc
            exact (n8 w).tr _ (q : Int) _ (by rw [show ((j + 1 : Nat) : Int) = (j : Int) + 1 by omega]; omega) (h5 p h6 (by omega) h8)
        · refine .inr ⟨q, h1, by omega, by rw [xJ rfl (by omega) hc]; exact h3, h4, fun p h6 h7 h8 => ?_⟩
          by_cases e2 : p = j + 1
          · rw [h3] at hc
            have := (n8 w).anti (q : Int) ((j : Int) + 1)
            rw [e2, show ((j + 1 : Nat) : Int) = (j : Int) + 1 by omega]; omega
          · exact h5 p h6 (by omega) h8
theorem k4c (w : List Int) (ms : List (List Int)) : ∀ j, 1 ≤ j → j ≤ ms.length → c9 w ms j ∈ ms ∧ ∀ i, i < j → yP w (c9 w ms j) (List.getD ms i []) ≤ 0
  | 0, h, _ => absurd h (by decide)
  | j + 1, _, hj => by
    have hm : List.getD ms j [] ∈ ms := by
      rw [List.getD_eq_getElem?_getD, List.getElem?_eq_getElem (by omega : j < ms.length)]; exact List.getElem_mem _
    by_cases h0 : j = 0
    · subst h0
      rw [u7q (w := w) (ms := ms) rfl]
      refine ⟨hm, fun i hi => ?_⟩
      obtain rfl : i = 0 := by omega
      exact Int.le_of_eq ((n7 w).zero _)
    · obtain ⟨h1, h2⟩ := k4c w ms j zo zo
      by_cases hc : yP w (List.getD ms j []) (c9 w ms j) < 0
      · rw [u0e rfl hc rfl]
        refine ⟨hm, fun i hi => ?_⟩
        by_cases e : i = j
        · rw [e]; exact Int.le_of_eq ((n7 w).zero _)
        · exact (n7 w).tr _ _ _ (by omega) (h2 i (by omega))
      · rw [u0f rfl h0 hc]
        refine ⟨h1, fun i hi => ?_⟩
        by_cases e : i = j
        · have := (n7 w).anti (c9 w ms j) (List.getD ms j [])
          rw [e]; omega
        · exact h2 i (by omega)
theorem k3q {z : Int} {l : List Int} {n : Nat} (hl : l.length = n * 2) (h1 : 1 ≤ kP l n) : dK (kC l n) (q9 z (kC l n)) = true ∧ ∀ x, dK (kC l n) x = true → aA z (q9 z (kC l n)) x ≤ 0 := by
  have hok := uG hl
  have hlen := qW (kU hl)
  unfold q9
  generalize hs : uF (kC l n) = s at *
  cases s with
  | nil => simp only [List.length_nil] at hlen; omega
  | cons p r =>
    have hp := hok.1
    unfold fK at hp
    have hc : p.1 ≤ jN z p ∧ jN z p ≤ p.2 := by unfold jN; omega
    have h0 : nrP z (p :: r) none = nrP z r (some (jN z p)) := rfl
    obtain ⟨w, hw⟩ := wE z r (jN z p)
    obtain ⟨i1, i2, i3⟩ := wF z r (jN z p) w hok.2.2 (fun q hq => by have := hok.2.1 q hq; omega) hw
    rw [h0, hw]
    show dK (kC l n) w = true ∧ ∀ x, dK (kC l n) x = true → aA z w x ≤ 0
    refine ⟨aV.2 (by rw [hs]; exact q5.2 (i1.imp (fun e => by rw [e]; exact hc) id)), fun x hx => ?_⟩
    have hx := aV.1 hx
    rw [hs] at hx
    have hd : vA w z < vA x z ∨ (vA w z = vA x z ∧ w ≤ x) := by
      rcases q5.1 hx with hx | hx
      · have := xD hp.2.1 z x hx
        rcases this with h9 | h9 | h9
        · omega
        · rw [← h9]; omega
        · omega
      · exact i3 x hx
    have a1 : vT z w = vA w z := by unfold vT vA; (repeat' split) <;> omega
    have a2 : vT z x = vA x z := by unfold vT vA; (repeat' split) <;> omega
    unfold aA u0 qV
    rw [a1, a2]
    (repeat' split) <;> omega
def BxG (b : Bx) : Prop := BxW b ∧ 1 ≤ kP b.r b.rn ∧ 1 ≤ kP b.s b.sn ∧ 1 ≤ List.length b.m ∧ ∃ q, 1 ≤ q ∧ q ≤ 7 ∧ jH b.k q = true
theorem k4f {b : Bx} (h : BxG b) (w : Co) : iA b.k b.r b.rn b.m b.s b.sn (bxC b w).k (bxC b w).r (bxC b w).m (bxC b w).s = true ∧ ∀ c : Co, iA b.k b.r b.rn b.m b.s b.sn c.k c.r c.m c.s = true → coV w (bxC b w) c ≤ 0 := by
  obtain ⟨⟨hr, hs, _⟩, h1, h2, h3, q, q1, q2, q3⟩ := h
  obtain ⟨r1, r2⟩ := k3q (z := w.r) hr h1
  obtain ⟨s1, s2⟩ := k3q (z := w.s) hs h2
  obtain ⟨m1, m2⟩ := k4c w.m b.m b.m.length h3 (Nat.le_refl _)
  rcases k4e b.k w.k 7 with ⟨_, k2⟩ | ⟨p, p1, p2, p3, p4, p5⟩
  · rw [k2 q q1 q2] at q3; cases q3
  · have ek : (bxC b w).k = (p : Int) := p3
    refine ⟨v0z (by rw [ek, u6n]; exact p4) r1 (decide_eq_true m1) s1, fun c hc => ?_⟩
    unfold iA at hc
    rw [Bool.and_eq_true, Bool.and_eq_true, Bool.and_eq_true] at hc
    obtain ⟨c1, c2, c3, c4⟩ := hc
    unfold kjB at c1
    rw [Bool.and_eq_true, decide_eq_true_iff] at c1
    refine k72 ?_ (k72 (r2 _ c2) (k72 ?_ (s2 _ c4)))
    · rw [ek]
      have := p5 c.k.toNat (by omega) (by omega) c1.2
      rw [show ((c.k.toNat : Nat) : Int) = c.k by omega] at this; exact this
    · obtain ⟨i, hi, e⟩ := List.mem_iff_getElem.1 (of_decide_eq_true c3)
      have := m2 i hi
      rw [show List.getD b.m i [] = c.m by rw [List.getD_eq_getElem?_getD, List.getElem?_eq_getElem hi]; exact e] at this
      exact this
def BsG (bs : List Bx) : Prop := ∀ b ∈ bs, BxG b
theorem qF {bs : List Bx} {i : Nat} (h : i < bs.length) : aB bs i ∈ bs := by
  unfold aB; rw [List.getD_eq_getElem?_getD, List.getElem?_eq_getElem h]; exact List.getElem_mem _
end Go.Proofs.YtcfmjpnffembpaaGreat
namespace Go.Proofs.YtcfmjpnffembpaaGreat
open Go.ChangeShapes Go.WideShapes Go.ChangeAt Go.RowKit
set_option linter.unusedVariables false
set_option linter.unusedSimpArgs false
/-! chapter 10: boxes out of dice are valid -/
theorem u4a (l : List Int) (h : Byt l) : ∃ q : Nat, 1 ≤ q ∧ q ≤ 7 ∧ kbV l = ((2 ^ q : Nat) : Int) := by
  have h2 := qP l 7 h
  refine ⟨1 + kD l 7, by omega, by omega, ?_⟩
  unfold kbV
  have h3 : kD l 7 < 7 := by omega
  generalize kD l 7 = n at *
  match n, h3 with
  | 0, _ => rfl
  | 1, _ => rfl
  | 2, _ => rfl
  | 3, _ => rfl
  | 4, _ => rfl
  | 5, _ => rfl
  | 6, _ => rfl
def KG (k : Int) : Prop := 2 ≤ k ∧ k ≤ 254 ∧ k % 2 = 0
def orC : Bool := (List.range 127).all fun n => (List.range 7).all fun q => decide (2 ≤ orI (2 * (n : Int) + 2) ((2 ^ (q + 1) : Nat) : Int) ∧ orI (2 * (n : Int) + 2) ((2 ^ (q + 1) : Nat) : Int) ≤ 254 ∧ orI (2 * (n : Int) + 2) ((2 ^ (q + 1) : Nat) : Int) % 2 = 0)
theorem u9m : orC = true := by kernel_rfl
theorem KG.or {k : Int} (h : KG k) {q : Nat} (h1 : 1 ≤ q) (h2 : q ≤ 7) : KG (orI k ((2 ^ q : Nat) : Int)) := by
  unfold KG at h
  obtain ⟨n, rfl⟩ : ∃ n : Nat, k = 2 * (n : Int) + 2 := ⟨((k - 2) / 2).toNat, by omega⟩
  obtain ⟨r, rfl⟩ : ∃ r, q = r + 1 := ⟨q - 1, by omega⟩
  have h9 := List.all_eq_true.1 (List.all_eq_true.1 u9m n (List.mem_range.2 (by omega))) r (List.mem_range.2 (by omega))
  have h8 := of_decide_eq_true h9
  exact h8
theorem KG.one {q : Nat} (h1 : 1 ≤ q) (h2 : q ≤ 7) : KG ((2 ^ q : Nat) : Int) := by
  match q, h1, h2 with
  | 1, _, _ => exact ⟨by decide, by decide, by decide⟩
  | 2, _, _ => exact ⟨by decide, by decide, by decide⟩
  | 3, _, _ => exact ⟨by decide, by decide, by decide⟩
  | 4, _, _ => exact ⟨by decide, by decide, by decide⟩
  | 5, _, _ => exact ⟨by decide, by decide, by decide⟩
  | 6, _, _ => exact ⟨by decide, by decide, by decide⟩
  | 7, _, _ => exact ⟨by decide, by decide, by decide⟩
theorem v05 {l : List Int} {k : Int} (hl : Byt l) (hk : KG k) : ∀ i, KG (knK l k i)
  | 0 => hk
  | i + 1 => by
    obtain ⟨q, h1, h2, e⟩ := u4a (eE l i) (aF hl i)
    show KG (orI (knK l k i) (kbV (eE l i)))
    rw [e]; exact (v05 hl hk i).or h1 h2
theorem u4v {l : List Int} (h : Byt l) : KG (boK l) := by
  unfold boK bo1
  obtain ⟨q, h1, h2, e⟩ := u4a l h
  rw [e]; exact v05 (qH _ (qH _ h)) (KG.one h1 h2) _
def kgC : Bool := (List.range 127).all fun n => decide (fO (2 * (n : Int) + 2) = 0) && (List.range 7).any fun q => decide (dE ((2 * (n : Int) + 2) / ((2 ^ (q + 1) : Nat) : Int)) = 1)
theorem v06 : kgC = true := by kernel_rfl
theorem KG.ok {k : Int} (h : KG k) : (¬ k = 0 ∧ fO k = 0) ∧ ∃ q, 1 ≤ q ∧ q ≤ 7 ∧ jH k q = true := by
  unfold KG at h
  obtain ⟨n, rfl⟩ : ∃ n : Nat, k = 2 * (n : Int) + 2 := ⟨((k - 2) / 2).toNat, by omega⟩
  have h1 := List.all_eq_true.1 v06 n (List.mem_range.2 (by omega))
  rw [Bool.and_eq_true, decide_eq_true_iff] at h1
  obtain ⟨q, hq, h2⟩ := List.any_eq_true.1 h1.2
  have hq := List.mem_range.1 hq
  exact ⟨⟨by omega, h1.1⟩, q + 1, by omega, by omega, decide_eq_true ⟨by omega, by omega, of_decide_eq_true h2⟩⟩
/-! sets -/
def SpB (l : List Int) (n : Nat) (lo hi : Int) : Prop := l.length = n * 2 ∧ ∀ p ∈ uF l, lo ≤ p.1 ∧ p.1 ≤ p.2 ∧ p.2 ≤ hi
theorem u1u (a b : Int) : uF [a, b] = [(a, b)] := rfl
theorem u43 {sp : List Int} {n : Nat} {lo hi : Int} (h : SpB sp n lo hi) (l : List Int) : ∀ i, i ≤ n → ∃ k, k ≤ i ∧ SpB (tU sp l i) k lo hi
  | 0, _ => ⟨0, Nat.le_refl _, rfl, fun p hp => by cases hp⟩
  | i + 1, hi_ => by
    obtain ⟨k, hk, hl, hb⟩ := u43 h l i zo
    rw [tU]; split
    · refine ⟨k + 1, by omega, by rw [List.length_append]; simp only [List.length_cons, List.length_nil]; omega, fun p hp => ?_⟩
      rw [zT hl] at hp
      rcases List.mem_append.1 hp with hp | hp
      · exact hb p hp
      · rw [List.mem_singleton.1 hp]; exact h.2 _ ((yF h.1).2 ⟨i, by omega, rfl⟩)
    · exact ⟨k, by omega, hl, hb⟩
theorem k35 {sp : List Int} {n : Nat} {lo hi : Int} (h : SpB sp n lo hi) (h1 : 1 ≤ n) (l : List Int) (hl : kD (uH l n) (n : Int) < n) : 1 ≤ aU sp l n ∧ aU sp l n ≤ n ∧ SpB (aZ sp l n) (aU sp l n) lo hi := by
  obtain ⟨k, hk, h2, h3⟩ := u43 h l n (Nat.le_refl _)
  by_cases e : tU sp l n = []
  · have e1 : aZ sp l n = [List.getD sp (kD (uH l n) (n : Int) * 2) 0, List.getD sp (kD (uH l n) (n : Int) * 2 + 1) 0] := if_pos e
    have e2 : aU sp l n = 1 := by simp [aU, e1]
    rw [e2, e1]
    refine ⟨Nat.le_refl _, h1, rfl, fun p hp => ?_⟩
    rw [u1u] at hp
    rw [List.mem_singleton.1 hp]; exact h.2 _ ((yF h.1).2 ⟨_, hl, rfl⟩)
  · have e1 : aZ sp l n = tU sp l n := if_neg e
    have e2 : aU sp l n = k := by unfold aU; rw [e1, h2]; omega
    have hk0 : k ≠ 0 := fun e3 => e (List.eq_nil_of_length_eq_zero (by omega))
    rw [e2, e1]
    exact ⟨by omega, hk, h2, h3⟩
theorem u6k {l : List Int} {n : Nat} (hl : l.length = n * 2) (hr : RG l n) (z : Int) : dH (uF (x9 l)) z ↔ dH (uF l) z := by
  unfold x9; rw [o4]; exact (k7m (hr.v hl)).2.1 z
theorem u49 {l : List Int} {n : Nat} {lo hi : Int} (h : SpB l n lo hi) (h1 : 1 ≤ n) (h2 : n ≤ 64) (hlo : 0 ≤ lo) (hhi : hi ≤ 2147483647) : d9 (fM l n) (vS l n) lo hi = true := by
  obtain ⟨hl, hb⟩ := h
  have hr : RG l n := u14 hl fun p hp => by have := hb p hp; unfold fK; omega
  have hj := k85 hl hr
  obtain ⟨_, e1, e2⟩ := wG (mL.2 hr) zo
  have hva := u6i hl
  have hlen := k27 l
  have hok : cY (uF (x9 l)) := by rw [← e1]; exact k7p hl
  have hme : ∀ z, dH (uF (x9 l)) z ↔ dH (uF l) z := u6k hl hr
  rw [e1, e2] at *
  have hsv : ∀ p ∈ uF (x9 l), lo ≤ p.1 ∧ p.1 ≤ p.2 ∧ p.2 ≤ hi := fun p hp => by
    have hv := gE hok p hp
    unfold fK at hv
    obtain ⟨q, hq, q1⟩ := (hme p.1).1 ⟨p, hp, by omega⟩
    obtain ⟨r, hr_, r1⟩ := (hme p.2).1 ⟨p, hp, by omega⟩
    have b1 := hb q hq; have b2 := hb r hr_
    omega
  have hn : 1 ≤ n9 l := by
    have hm : (List.getD l (0 * 2) 0, List.getD l (0 * 2 + 1) 0) ∈ uF l := (yF hl).2 ⟨0, by omega, rfl⟩
    have b1 := hb _ hm
    obtain ⟨q, hq, _⟩ := (hme (List.getD l (0 * 2) 0)).2 ⟨_, hm, by simp only at b1 ⊢; omega⟩
    have : 0 < (uF (x9 l)).length := List.length_pos_of_mem hq
    rw [qW hlen] at this; exact this
  have f1 := hsv _ ((yF hlen).2 ⟨0, by omega, rfl⟩)
  have f2 := hsv _ ((yF hlen).2 ⟨n9 l - 1, by omega, rfl⟩)
  exact u5i hva ⟨hn, f1.1, f2.2.2⟩
/-! maps -/
theorem u9w : ∀ m ∈ pC, nF m m.length = true := by decide
theorem u6h {l : List Int} (h : Byt l) : yG l ∈ pC := by
  have h2 := qP l 7 h
  have h3 : kD l 7 < pC.length := by show _ < 7; omega
  unfold yG
  rw [List.getD_eq_getElem?_getD, List.getElem?_eq_getElem h3]; exact List.getElem_mem h3
theorem u5l {ms : List (List Int)} {m : List Int} (h : p9 ms m = false) : m ∉ ms := fun hm => by
  have : p9 ms m = true := List.any_eq_true.2 ⟨m, hm, decide_eq_true ⟨rfl, rfl⟩⟩
  rw [this] at h; cases h
def MsV (ms : List (List Int)) : Prop := (∀ m ∈ ms, nF m m.length = true) ∧ ms.Pairwise fun a b => a ≠ b
theorem u9s {l : List Int} (h : Byt l) : ∀ i, MsV (rA l i)
  | 0 => ⟨fun m hm => (by cases hm), List.Pairwise.nil⟩
  | i + 1 => by
    obtain ⟨h1, h2⟩ := u9s h i
    rw [rA]; split
    · exact ⟨h1, h2⟩
    · rename_i hn
      have hn : p9 (rA l i) (yG (rB l i)) = false := by simpa using hn
      refine ⟨fun m hm => ?_, List.pairwise_append.2 ⟨h2, List.pairwise_singleton .., fun a ha b hb => ?_⟩⟩
      · rcases List.mem_append.1 hm with hm | hm
        · exact h1 m hm
        · rw [List.mem_singleton.1 hm]; exact u9w _ (u6h (j7 h i))
      · rw [List.mem_singleton.1 hb]; intro e; exact u5l hn (e ▸ ha)
theorem u9t (l : List Int) : ∀ i, 1 ≤ i → 1 ≤ (rA l i).length
  | 0, h => absurd h (by decide)
  | i + 1, _ => by
    rw [rA]; split
    · rename_i hn
      cases e : rA l i with
      | nil => rw [e] at hn; cases hn
      | cons a r => rw [List.length_cons]; omega
    · rw [List.length_append, List.length_singleton]; omega
theorem u3w {ms : List (List Int)} (h : MsV ms) (h1 : 1 ≤ ms.length) (h2 : ms.length ≤ 16) : p8 ms = true := by
  refine i6 h1 h2 fun i hi => k63 ?_ ?_
  · rw [show List.getD ms i [] = ms[i] by rw [List.getD_eq_getElem?_getD, List.getElem?_eq_getElem hi]; rfl]
    exact h.1 _ (List.getElem_mem hi)
  · rw [show List.getD ms i [] = ms[i] by rw [List.getD_eq_getElem?_getD, List.getElem?_eq_getElem hi]; rfl]
    refine decide_eq_false fun hm => ?_
    obtain ⟨j, hj, e⟩ := List.mem_iff_getElem.1 hm
    rw [List.length_take] at hj
    rw [List.getElem_take] at e
    exact List.pairwise_iff_getElem.1 h.2 j i (by omega) hi (by omega) e
/-! boxes -/
theorem u8t : SpB rtT 5 1000 768000 := ⟨rfl, by decide⟩
theorem u8l : SpB szT 4 1 65536 := ⟨rfl, by decide⟩
theorem rZ {l : List Int} {n : Nat} {lo hi : Int} (h : d9 l n lo hi = true) : eX l n = true ∧ kC l n = l ∧ kP l n = n ∧ 1 ≤ n := by
  unfold d9 at h
  rw [Bool.and_eq_true, decide_eq_true_iff] at h
  exact ⟨h.1, (k6e h.1).1, (k6e h.1).2, h.2.1⟩
theorem k62 {ms : List (List Int)} (h : p8 ms = true) : 1 ≤ ms.length := (of_decide_eq_true h).1
attribute [local irreducible] aZ yW aU fM vS kD kB yG p9 eE rB rA knK d9 p8
theorem u7p {l : List Int} (h : Byt l) : d5 (boX l).k (boX l).r (boX l).rn (boX l).m (boX l).s (boX l).sn = true := by
  have b1 : Byt (bo1 l) := qH _ (qH _ h)
  have b2 : Byt (bo2 l) := aF b1 _
  have b3 : Byt (bo3 l) := aP b2
  have b4 : Byt (bo4 l) := aP b3
  have b5 : Byt (bo5 l) := qH _ b4
  have n1 := qP (uH (bo2 l) 5) 5 (y3 b2 5)
  have n2 := qP (uH (bo3 l) 4) 4 (y3 b3 4)
  have n3 := qP (bo4 l) 3 b4
  obtain ⟨r1, r2, r3⟩ := k35 u8t (by decide) (bo2 l) (by show kD _ 5 < 5; omega)
  obtain ⟨s1, s2, s3⟩ := k35 u8l (by decide) (bo3 l) (by show kD _ 4 < 4; omega)
  have m1 := u9t (bo5 l) (boN l) (by unfold boN; omega)
  have m2 := k25 (bo5 l) (boN l)
  have m3 : boN l ≤ 3 := by unfold boN; omega
  show d5 (boK l) (boR l) (zE l) (nT l) (boS l) (zD l) = true
  unfold boR zE nT boS zD
  exact mT (u4v h).ok.1 (u49 r3 r1 (by omega) (by decide) (by decide)) (u3w (u9s b5 _) m1 (by omega)) (u49 s3 s1 (by omega) (by decide) (by decide))
def BxV (b : Bx) : Prop := BxW b ∧ KG b.k ∧ d5 b.k b.r b.rn b.m b.s b.sn = true
def BsV (bs : List Bx) : Prop := ∀ b ∈ bs, BxV b
theorem b6 {k : Int} {r : List Int} {rn : Nat} {m : List (List Int)} {s : List Int} {sn : Nat} (h : d5 k r rn m s sn = true) : (¬ k = 0 ∧ fO k = 0) ∧ d9 r rn 1000 768000 = true ∧ p8 m = true ∧ d9 s sn 1 65536 = true := by
  unfold d5 at h
  rw [Bool.and_eq_true, Bool.and_eq_true, Bool.and_eq_true, decide_eq_true_iff] at h
  exact h
theorem BxV.g {b : Bx} (h : BxV b) : BxG b := by
  obtain ⟨h1, h2, h3⟩ := h
  obtain ⟨_, p2, p3, p4⟩ := b6 h3
  obtain ⟨_, _, r3, r4⟩ := rZ p2
  obtain ⟨_, _, s3, s4⟩ := rZ p4
  exact ⟨h1, by omega, by omega, k62 p3, h2.ok.2⟩
theorem BsV.g {bs : List Bx} (h : BsV bs) : BsG bs := fun b hb => (h b hb).g
theorem BsV.w {bs : List Bx} (h : BsV bs) : BsW bs := fun b hb => (h b hb).1
theorem BsV.vb {bs : List Bx} (h : BsV bs) (hn : bs.length ≤ 64) : cQ bs = true := k64 hn fun i hi => (h _ (qF hi)).2.2
theorem BsV.eq {bs : List Bx} (h : BsV bs) (hn : bs.length ≤ 64) : kF bs = bs := k4b (h.vb hn)
theorem BsV.nil : BsV [] := fun b hb => by cases hb
theorem BsV.app {a b : List Bx} (h : BsV a) (h2 : BsV b) : BsV (a ++ b) := fun m hm => (List.mem_append.1 hm).elim (h m) (h2 m)
theorem BsV.one {b : Bx} (h : BxV b) : BsV [b] := fun m hm => by rw [List.mem_singleton.1 hm]; exact h
theorem BsV.box {xs : List Bx} (h : BsV xs) {i : Nat} (hi : i < xs.length) : BxV (u7 (kQ xs i) (kZ xs i) (kX xs i) (kL xs i) (qA xs i) (k8 xs i)) := h _ (qF hi)
theorem u51 {l : List Int} (h : Byt l) : ∀ i, BsV (bbL l i)
  | 0 => BsV.nil
  | i + 1 => (u51 h i).app (BsV.one ⟨u4u _, u4v (iB h i), u7p (iB h i)⟩)
end Go.Proofs.YtcfmjpnffembpaaGreat
