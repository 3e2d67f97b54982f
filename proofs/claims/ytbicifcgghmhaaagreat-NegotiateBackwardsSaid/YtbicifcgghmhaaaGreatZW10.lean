/- Merged texts. -/
import Derived.Test.YtbicifcgghmhaaaGreatZL10M
import Derived.Test.YtbicifcgghmhaaaGreatZL10G
namespace Go.Proofs.YtbicifcgghmhaaaGreat
open Go.ChangeShapes Go.WideShapes Go.ChangeAt Go.RowKit
set_option linter.unusedVariables false
set_option linter.unusedSimpArgs false
/-! chapter 10: the best choice is in the list, and no other one is better -/
theorem k5m {a b : Int} (h1 : a ≤ 0) (h2 : b ≤ 0) : yD a b ≤ 0 := by unfold yD; split <;> assumption
theorem k2g (b w : Int) : ∀ j, (bS b w j = 0 ∧ ∀ q, 1 ≤ q → q ≤ j → gE b q = false) ∨ (∃ q : Nat, 1 ≤ q ∧ q ≤ j ∧ bS b w j = (q : Int) ∧ gE b q = true ∧ ∀ p : Nat, 1 ≤ p → p ≤ j → gE b p = true → cJ w (q : Int) (p : Int) ≤ 0)
  | 0 => .inl ⟨rfl, fun q h1 h2 => by omega⟩
  | j + 1 => by
    have ih := k2g b w j
    cases hk : gE b (j + 1) with
    | false =>
      have e : bS b w (j + 1) = bS b w j := v24 rfl hk
      rw [e]
      rcases ih with ⟨h1, h2⟩ | ⟨q, h1, h2, h3, h4, h5⟩
      · refine .inl ⟨h1, fun q h3 h4 => ?_⟩
        by_cases e2 : q = j + 1
        · rw [e2]; exact hk
        · exact h2 q h3 (by omega)
      · refine .inr ⟨q, h1, by omega, h3, h4, fun p h6 h7 h8 => ?_⟩
        by_cases e2 : p = j + 1
        · rw [e2, hk] at h8; cases h8
        · exact h5 p h6 (by omega) h8
    | true =>
      rcases ih with ⟨h1, h2⟩ | ⟨q, h1, h2, h3, h4, h5⟩
      · refine .inr ⟨j + 1, by omega, Nat.le_refl _, by rw [u2o rfl hk (.inl h1) rfl]; omega, hk, fun p h6 h7 h8 => ?_⟩
        by_cases e2 : p = j + 1
        · rw [e2]; exact Int.le_of_eq ((g8 w).zero _)
        · rw [h2 p h6 (by omega)] at h8; cases h8
      · by_cases hc : cJ w ((j : Int) + 1) (bS b w j) < 0
        · refine .inr ⟨j + 1, by omega, Nat.le_refl _, by rw [u2o rfl hk (.inr hc) rfl]; omega, hk, fun p h6 h7 h8 => ?_⟩
          by_cases e2 : p = j + 1
          · rw [e2]; exact Int.le_of_eq ((g8 w).zero _)
          · rw [h3] at hc
            exact (g8 w).tr _ (q : Int) _ (by rw [show ((j + 1 : Nat) : Int) = (j : Int) + 1 by omega]; omega) (h5 p h6 (by omega) h8)
        · refine .inr ⟨q, h1, by omega, by rw [v23 rfl (by omega) hc]; exact h3, h4, fun p h6 h7 h8 => ?_⟩
          by_cases e2 : p = j + 1
          · rw [h3] at hc
            have := (g8 w).anti (q : Int) ((j : Int) + 1)
            rw [e2, show ((j + 1 : Nat) : Int) = (j : Int) + 1 by omega]; omega
          · exact h5 p h6 (by omega) h8
theorem k2f (w : List Int) (ms : List (List Int)) : ∀ j, 1 ≤ j → j ≤ ms.length → eD w ms j ∈ ms ∧ ∀ i, i < j → cI w (eD w ms j) (List.getD ms i []) ≤ 0
  | 0, h, _ => absurd h (by decide)
  | j + 1, _, hj => by
    have hm : List.getD ms j [] ∈ ms := by
      rw [List.getD_eq_getElem?_getD, List.getElem?_eq_getElem (by omega : j < ms.length)]; exact List.getElem_mem _
    by_cases h0 : j = 0
    · subst h0
      rw [v22 (w := w) (ms := ms) rfl]
      refine ⟨hm, fun i hi => ?_⟩
      obtain rfl : i = 0 := by omega
      exact Int.le_of_eq ((gY w).zero _)
    · obtain ⟨h1, h2⟩ := k2f w ms j zo zo
      by_cases hc : cI w (List.getD ms j []) (eD w ms j) < 0
      · rw [v20 rfl hc rfl]
        refine ⟨hm, fun i hi => ?_⟩
        by_cases e : i = j
        · rw [e]; exact Int.le_of_eq ((gY w).zero _)
        · exact (gY w).tr _ _ _ (by omega) (h2 i (by omega))
      · rw [v21 rfl h0 hc]
        refine ⟨h1, fun i hi => ?_⟩
        by_cases e : i = j
        · have := (gY w).anti (eD w ms j) (List.getD ms j [])
          rw [e]; omega
        · exact h2 i (by omega)
theorem k1o {z : Int} {l : List Int} {n : Nat} (hl : l.length = n * 2) (h1 : 1 ≤ kW l n) : aW (kB l n) (y7 z (kB l n)) = true ∧ ∀ x, aW (kB l n) x = true → cH z (y7 z (kB l n)) x ≤ 0 := by
  have hok := aY hl
  have hlen := qX (qQ hl)
  unfold y7
  generalize hs : qN (kB l n) = s at *
  cases s with
  | nil => simp only [List.length_nil] at hlen; omega
  | cons p r =>
    have hp := hok.1
    unfold dA at hp
    have hc : p.1 ≤ gJ z p ∧ gJ z p ≤ p.2 := by unfold gJ; omega
    have h0 : nrP z (p :: r) none = nrP z r (some (gJ z p)) := rfl
    obtain ⟨w, hw⟩ := rH z r (gJ z p)
    obtain ⟨i1, i2, i3⟩ := rI z r (gJ z p) w hok.2.2 (fun q hq => by have := hok.2.1 q hq; omega) hw
    rw [h0, hw]
    show aW (kB l n) w = true ∧ ∀ x, aW (kB l n) x = true → cH z w x ≤ 0
    refine ⟨yZ.2 (by rw [hs]; exact qO.2 (i1.imp (fun e => by rw [e]; exact hc) id)), fun x hx => ?_⟩
    have hx := yZ.1 hx
    rw [hs] at hx
    have hd : aG w z < aG x z ∨ (aG w z = aG x z ∧ w ≤ x) := by
      rcases qO.1 hx with hx | hx
      · have := sL hp.2.1 z x hx
        rcases this with h9 | h9 | h9
        · omega
        · rw [← h9]; omega
        · omega
      · exact i3 x hx
    have a1 : gK z w = aG w z := by unfold gK aG; (repeat' split) <;> omega
    have a2 : gK z x = aG x z := by unfold gK aG; (repeat' split) <;> omega
    unfold cH yD yC
    rw [a1, a2]
    (repeat' split) <;> omega
def BxG (b : Bx) : Prop := zA b ∧ 1 ≤ kW b.r b.rn ∧ 1 ≤ kW b.s b.sn ∧ 1 ≤ List.length b.m ∧ ∃ q, 1 ≤ q ∧ q ≤ 7 ∧ gE b.k q = true
theorem lP {b : Bx} (h : BxG b) (w : Co) : eF b.k b.r b.rn b.m b.s b.sn (bxC b w).k (bxC b w).r (bxC b w).m (bxC b w).s = true ∧ ∀ c : Co, eF b.k b.r b.rn b.m b.s b.sn c.k c.r c.m c.s = true → coV w (bxC b w) c ≤ 0 := by
  obtain ⟨⟨hr, hs, _⟩, h1, h2, h3, q, q1, q2, q3⟩ := h
  obtain ⟨r1, r2⟩ := k1o (z := w.r) hr h1
  obtain ⟨s1, s2⟩ := k1o (z := w.s) hs h2
  obtain ⟨m1, m2⟩ := k2f w.m b.m b.m.length h3 (Nat.le_refl _)
  rcases k2g b.k w.k 7 with ⟨_, k2⟩ | ⟨p, p1, p2, p3, p4, p5⟩
  · rw [k2 q q1 q2] at q3; cases q3
  · have ek : (bxC b w).k = (p : Int) := p3
    refine ⟨v25 (by rw [ek, u6r]; exact p4) r1 (decide_eq_true m1) s1, fun c hc => ?_⟩
    unfold eF at hc
    rw [Bool.and_eq_true, Bool.and_eq_true, Bool.and_eq_true] at hc
    obtain ⟨c1, c2, c3, c4⟩ := hc
    unfold kjB at c1
    rw [Bool.and_eq_true, decide_eq_true_iff] at c1
    refine k5m ?_ (k5m (r2 _ c2) (k5m ?_ (s2 _ c4)))
    · rw [ek]
      have := p5 c.k.toNat (by omega) (by omega) c1.2
      rw [show ((c.k.toNat : Nat) : Int) = c.k by omega] at this; exact this
    · obtain ⟨i, hi, e⟩ := List.mem_iff_getElem.1 (of_decide_eq_true c3)
      have := m2 i hi
      rw [show List.getD b.m i [] = c.m by rw [List.getD_eq_getElem?_getD, List.getElem?_eq_getElem hi]; exact e] at this
      exact this
def BsG (bs : List Bx) : Prop := ∀ b ∈ bs, BxG b
def hcB (bs : List Bx) (c : Co) : Prop := ∃ b ∈ bs, eF b.k b.r b.rn b.m b.s b.sn c.k c.r c.m c.s = true
theorem qR {bs : List Bx} {i : Nat} (h : i < bs.length) : u9 bs i ∈ bs := by
  unfold u9; rw [List.getD_eq_getElem?_getD, List.getElem?_eq_getElem h]; exact List.getElem_mem _
theorem k74 {bs : List Bx} {ck cr : Int} {cm : List Int} {cz : Int} : wV bs ck cr cm cz = true ↔ hcB bs ⟨ck, cr, cm, cz⟩ := by
  unfold wV; rw [decide_eq_true_iff]
  constructor
  · rintro ⟨i, hi, h⟩
    exact ⟨u9 bs i, qR hi, h⟩
  · rintro ⟨b, hb, h⟩
    obtain ⟨i, hi, rfl⟩ := List.mem_iff_getElem.1 hb
    have e : u9 bs i = bs[i] := by unfold u9; rw [List.getD_eq_getElem?_getD, List.getElem?_eq_getElem hi]; rfl
    exact ⟨i, hi, by unfold biE kR k8 kU kS kZ kT; rw [e]; exact h⟩
theorem k2i {bs : List Bx} (h : BsG bs) (w : Co) : ∀ j, 1 ≤ j → j ≤ bs.length → hcB bs (o7 bs w j) ∧ ∀ i, i < j → ∀ c : Co, eF (u9 bs i).k (u9 bs i).r (u9 bs i).rn (u9 bs i).m (u9 bs i).s (u9 bs i).sn c.k c.r c.m c.s = true → coV w (o7 bs w j) c ≤ 0
  | 0, h, _ => absurd h (by decide)
  | j + 1, _, hj => by
    have hg := qR (bs := bs) (i := j) (by omega)
    obtain ⟨g1, g2⟩ := lP (h _ hg) w
    by_cases h0 : j = 0
    · subst h0
      rw [show o7 bs w 1 = bxC (u9 bs 0) w from if_pos (.inl rfl)]
      refine ⟨⟨_, hg, g1⟩, fun i hi c hc => ?_⟩
      obtain rfl : i = 0 := by omega
      exact g2 c hc
    · obtain ⟨h1, h2⟩ := k2i h w j zo zo
      by_cases hc : coV w (bxC (u9 bs j) w) (o7 bs w j) < 0
      · rw [show o7 bs w (j + 1) = bxC (u9 bs j) w from if_pos (.inr hc)]
        refine ⟨⟨_, hg, g1⟩, fun i hi c hc2 => ?_⟩
        by_cases e : i = j
        · subst e; exact g2 c hc2
        · exact (sK w).tr _ _ _ (by omega) (h2 i (by omega) c hc2)
      · rw [show o7 bs w (j + 1) = o7 bs w j from if_neg fun e => e.elim h0 hc]
        refine ⟨h1, fun i hi c hc2 => ?_⟩
        by_cases e : i = j
        · subst e
          have := (sK w).anti (o7 bs w i) (bxC (u9 bs i) w)
          exact (sK w).tr _ _ _ (by omega) (g2 c hc2)
        · exact h2 i (by omega) c hc2
theorem u2p {bs : List Bx} (h : BsG bs) (h1 : 1 ≤ bs.length) (w : Co) : hcB bs (o7 bs w bs.length) ∧ ∀ c, hcB bs c → coV w (o7 bs w bs.length) c ≤ 0 := by
  obtain ⟨i1, i2⟩ := k2i h w bs.length h1 (Nat.le_refl _)
  refine ⟨i1, fun c ⟨b, hb, hc⟩ => ?_⟩
  obtain ⟨i, hi, rfl⟩ := List.mem_iff_getElem.1 hb
  have e : u9 bs i = bs[i] := by unfold u9; rw [List.getD_eq_getElem?_getD, List.getElem?_eq_getElem hi]; rfl
  exact i2 i hi c (by rw [e]; exact hc)
end Go.Proofs.YtbicifcgghmhaaaGreat
namespace Go.Proofs.YtbicifcgghmhaaaGreat
open Go.ChangeShapes Go.WideShapes Go.ChangeAt Go.RowKit
set_option linter.unusedVariables false
set_option linter.unusedSimpArgs false
/-! chapter 10: boxes out of dice are valid -/
theorem u3r (l : List Int) (h : Byt l) : ∃ q : Nat, 1 ≤ q ∧ q ≤ 7 ∧ kbV l = ((2 ^ q : Nat) : Int) := by
  have h2 := q8 l 7 h
  refine ⟨1 + kD l 7, by omega, by omega, ?_⟩
  unfold kbV
  have h3 : kD l 7 < 7 := by omega
  generalize kD l 7 = n at *
  match n, h3 with
  | 0, _ => rfl
  | 1, _ => rfl
  | 2, _ => rfl
  | 3, _ => rfl
  | 4, _ => rfl
  | 5, _ => rfl
  | 6, _ => rfl
def KG (k : Int) : Prop := 2 ≤ k ∧ k ≤ 254 ∧ k % 2 = 0
def orC : Bool := (List.range 127).all fun n => (List.range 7).all fun q => decide (2 ≤ orI (2 * (n : Int) + 2) ((2 ^ (q + 1) : Nat) : Int) ∧ orI (2 * (n : Int) + 2) ((2 ^ (q + 1) : Nat) : Int) ≤ 254 ∧ orI (2 * (n : Int) + 2) ((2 ^ (q + 1) : Nat) : Int) % 2 = 0)
theorem v0a : orC = true := by kernel_rfl
theorem KG.or {k : Int} (h : KG k) {q : Nat} (h1 : 1 ≤ q) (h2 : q ≤ 7) : KG (orI k ((2 ^ q : Nat) : Int)) := by
  unfold KG at h
  obtain ⟨n, rfl⟩ : ∃ n : Nat, k = 2 * (n : Int) + 2 := ⟨((k - 2) / 2).toNat, by omega⟩
  obtain ⟨r, rfl⟩ : ∃ r, q = r + 1 := ⟨q - 1, by omega⟩
  have h9 := List.all_eq_true.1 (List.all_eq_true.1 v0a n (List.mem_range.2 (by omega))) r (List.mem_range.2 (by omega))
  have h8 := of_decide_eq_true h9
  exact h8
theorem KG.one {q : Nat} (h1 : 1 ≤ q) (h2 : q ≤ 7) : KG ((2 ^ q : Nat) : Int) := by
  match q, h1, h2 with
  | 1, _, _ => exact ⟨by decide, by decide, by decide⟩
  | 2, _, _ => exact ⟨by decide, by decide, by decide⟩
  | 3, _, _ => exact ⟨by decide, by decide, by decide⟩
  | 4, _, _ => exact ⟨by decide, by decide, by decide⟩
  | 5, _, _ => exact ⟨by decide, by decide, by decide⟩
  | 6, _, _ => exact ⟨by decide, by decide, by decide⟩
  | 7, _, _ => exact ⟨by decide, by decide, by decide⟩
theorem v0z {l : List Int} {k : Int} (hl : Byt l) (hk : KG k) : ∀ i, KG (knK l k i)
  | 0 => hk
  | i + 1 => by
    obtain ⟨q, h1, h2, e⟩ := u3r (dH l i) (vS hl i)
    show KG (orI (knK l k i) (kbV (dH l i)))
    rw [e]; exact (v0z hl hk i).or h1 h2
theorem u4x {l : List Int} (h : Byt l) : KG (xH l) := by
  unfold xH bo1
  obtain ⟨q, h1, h2, e⟩ := u3r l h
  rw [e]; exact v0z (qI _ (qI _ h)) (KG.one h1 h2) _
def kgC : Bool := (List.range 127).all fun n => decide (iP (2 * (n : Int) + 2) = 0) && (List.range 7).any fun q => decide (eC ((2 * (n : Int) + 2) / ((2 ^ (q + 1) : Nat) : Int)) = 1)
theorem v11 : kgC = true := by kernel_rfl
theorem KG.ok {k : Int} (h : KG k) : (¬ k = 0 ∧ iP k = 0) ∧ ∃ q, 1 ≤ q ∧ q ≤ 7 ∧ gE k q = true := by
  unfold KG at h
  obtain ⟨n, rfl⟩ : ∃ n : Nat, k = 2 * (n : Int) + 2 := ⟨((k - 2) / 2).toNat, by omega⟩
  have h1 := List.all_eq_true.1 v11 n (List.mem_range.2 (by omega))
  rw [Bool.and_eq_true, decide_eq_true_iff] at h1
  obtain ⟨q, hq, h2⟩ := List.any_eq_true.1 h1.2
  have hq := List.mem_range.1 hq
  exact ⟨⟨by omega, h1.1⟩, q + 1, by omega, by omega, decide_eq_true ⟨by omega, by omega, of_decide_eq_true h2⟩⟩
/-! sets -/
def SpB (l : List Int) (n : Nat) (lo hi : Int) : Prop := l.length = n * 2 ∧ ∀ p ∈ qN l, lo ≤ p.1 ∧ p.1 ≤ p.2 ∧ p.2 ≤ hi
theorem u0q (a b : Int) : qN [a, b] = [(a, b)] := rfl
theorem u39 {sp : List Int} {n : Nat} {lo hi : Int} (h : SpB sp n lo hi) (l : List Int) : ∀ i, i ≤ n → ∃ k, k ≤ i ∧ SpB (pQ sp l i) k lo hi
  | 0, _ => ⟨0, Nat.le_refl _, rfl, fun p hp => by cases hp⟩
  | i + 1, hi_ => by
    obtain ⟨k, hk, hl, hb⟩ := u39 h l i zo
    rw [pQ]; split
    · refine ⟨k + 1, by omega, by rw [List.length_append]; simp only [List.length_cons, List.length_nil]; omega, fun p hp => ?_⟩
      rw [tX hl] at hp
      rcases List.mem_append.1 hp with hp | hp
      · exact hb p hp
      · rw [List.mem_singleton.1 hp]; exact h.2 _ ((u6 h.1).2 ⟨i, by omega, rfl⟩)
    · exact ⟨k, by omega, hl, hb⟩
theorem k10 {sp : List Int} {n : Nat} {lo hi : Int} (h : SpB sp n lo hi) (h1 : 1 ≤ n) (l : List Int) (hl : kD (uA l n) (n : Int) < n) : 1 ≤ aC sp l n ∧ aC sp l n ≤ n ∧ SpB (aJ sp l n) (aC sp l n) lo hi := by
  obtain ⟨k, hk, h2, h3⟩ := u39 h l n (Nat.le_refl _)
  by_cases e : pQ sp l n = []
  · have e1 : aJ sp l n = [List.getD sp (kD (uA l n) (n : Int) * 2) 0, List.getD sp (kD (uA l n) (n : Int) * 2 + 1) 0] := if_pos e
    have e2 : aC sp l n = 1 := by simp [aC, e1]
    rw [e2, e1]
    refine ⟨Nat.le_refl _, h1, rfl, fun p hp => ?_⟩
    rw [u0q] at hp
    rw [List.mem_singleton.1 hp]; exact h.2 _ ((u6 h.1).2 ⟨_, hl, rfl⟩)
  · have e1 : aJ sp l n = pQ sp l n := if_neg e
    have e2 : aC sp l n = k := by unfold aC; rw [e1, h2]; omega
    have hk0 : k ≠ 0 := fun e3 => e (List.eq_nil_of_length_eq_zero (by omega))
    rw [e2, e1]
    exact ⟨by omega, hk, h2, h3⟩
theorem u6n {l : List Int} {n : Nat} (hl : l.length = n * 2) (hr : RG l n) (z : Int) : bP (qN (tI l)) z ↔ bP (qN l) z := by
  unfold tI; rw [gC]; exact (k6a (hr.v hl)).2.1 z
theorem u3p {l : List Int} {n : Nat} {lo hi : Int} (h : SpB l n lo hi) (h1 : 1 ≤ n) (h2 : n ≤ 64) (hlo : 0 ≤ lo) (hhi : hi ≤ 2147483647) : eA (d5 l n) (vE l n) lo hi = true := by
  obtain ⟨hl, hb⟩ := h
  have hr : RG l n := u06 hl fun p hp => by have := hb p hp; unfold dA; omega
  have hj := k6t hl hr
  obtain ⟨_, e1, e2⟩ := rK (i6.2 hr) zo
  have hva := u6k hl
  have hlen := k01 l
  have hok : bN (qN (tI l)) := by rw [← e1]; exact k6d hl
  have hme : ∀ z, bP (qN (tI l)) z ↔ bP (qN l) z := u6n hl hr
  rw [e1, e2] at *
  have hsv : ∀ p ∈ qN (tI l), lo ≤ p.1 ∧ p.1 ≤ p.2 ∧ p.2 ≤ hi := fun p hp => by
    have hv := cS hok p hp
    unfold dA at hv
    obtain ⟨q, hq, q1⟩ := (hme p.1).1 ⟨p, hp, by omega⟩
    obtain ⟨r, hr_, r1⟩ := (hme p.2).1 ⟨p, hp, by omega⟩
    have b1 := hb q hq; have b2 := hb r hr_
    omega
  have hn : 1 ≤ lI l := by
    have hm : (List.getD l (0 * 2) 0, List.getD l (0 * 2 + 1) 0) ∈ qN l := (u6 hl).2 ⟨0, by omega, rfl⟩
    have b1 := hb _ hm
    obtain ⟨q, hq, _⟩ := (hme (List.getD l (0 * 2) 0)).2 ⟨_, hm, by simp only at b1 ⊢; omega⟩
    have : 0 < (qN (tI l)).length := List.length_pos_of_mem hq
    rw [qX hlen] at this; exact this
  have f1 := hsv _ ((u6 hlen).2 ⟨0, by omega, rfl⟩)
  have f2 := hsv _ ((u6 hlen).2 ⟨lI l - 1, by omega, rfl⟩)
  exact k4c hva ⟨hn, f1.1, f2.2.2⟩
/-! maps -/
theorem v0n : ∀ m ∈ mP, tK m m.length = true := by decide
theorem u6j {l : List Int} (h : Byt l) : yA l ∈ mP := by
  have h2 := q8 l 7 h
  have h3 : kD l 7 < mP.length := by show _ < 7; omega
  unfold yA
  rw [List.getD_eq_getElem?_getD, List.getElem?_eq_getElem h3]; exact List.getElem_mem h3
theorem u5t {ms : List (List Int)} {m : List Int} (h : nB ms m = false) : m ∉ ms := fun hm => by
  have : nB ms m = true := List.any_eq_true.2 ⟨m, hm, decide_eq_true ⟨rfl, rfl⟩⟩
  rw [this] at h; cases h
def MsV (ms : List (List Int)) : Prop := (∀ m ∈ ms, tK m m.length = true) ∧ ms.Pairwise fun a b => a ≠ b
theorem v0l {l : List Int} (h : Byt l) : ∀ i, MsV (nC l i)
  | 0 => ⟨fun m hm => (by cases hm), List.Pairwise.nil⟩
  | i + 1 => by
    obtain ⟨h1, h2⟩ := v0l h i
    rw [nC]; split
    · exact ⟨h1, h2⟩
    · rename_i hn
      have hn : nB (nC l i) (yA (nD l i)) = false := by simpa using hn
      refine ⟨fun m hm => ?_, List.pairwise_append.2 ⟨h2, List.pairwise_singleton .., fun a ha b hb => ?_⟩⟩
      · rcases List.mem_append.1 hm with hm | hm
        · exact h1 m hm
        · rw [List.mem_singleton.1 hm]; exact v0n _ (u6j (gX h i))
      · rw [List.mem_singleton.1 hb]; intro e; exact u5t hn (e ▸ ha)
theorem v0m (l : List Int) : ∀ i, 1 ≤ i → 1 ≤ (nC l i).length
  | 0, h => absurd h (by decide)
  | i + 1, _ => by
    rw [nC]; split
    · rename_i hn
      cases e : nC l i with
      | nil => rw [e] at hn; cases hn
      | cons a r => rw [List.length_cons]; omega
    · rw [List.length_append, List.length_singleton]; omega
theorem k4e {ms : List (List Int)} (h : MsV ms) (h1 : 1 ≤ ms.length) (h2 : ms.length ≤ 16) : l5 ms = true := by
  refine u8s h1 h2 fun i hi => u34 ?_ ?_
  · rw [show List.getD ms i [] = ms[i] by rw [List.getD_eq_getElem?_getD, List.getElem?_eq_getElem hi]; rfl]
    exact h.1 _ (List.getElem_mem hi)
  · rw [show List.getD ms i [] = ms[i] by rw [List.getD_eq_getElem?_getD, List.getElem?_eq_getElem hi]; rfl]
    refine decide_eq_false fun hm => ?_
    obtain ⟨j, hj, e⟩ := List.mem_iff_getElem.1 hm
    rw [List.length_take] at hj
    rw [List.getElem_take] at e
    exact List.pairwise_iff_getElem.1 h.2 j i (by omega) hi (by omega) e
/-! boxes -/
theorem u9h : SpB rtT 5 1000 768000 := ⟨rfl, by decide⟩
theorem u93 : SpB szT 4 1 65536 := ⟨rfl, by decide⟩
theorem dD {l : List Int} {n : Nat} {lo hi : Int} (h : eA l n lo hi = true) : eB l n = true ∧ kB l n = l ∧ kW l n = n ∧ 1 ≤ n := by
  unfold eA at h
  rw [Bool.and_eq_true, decide_eq_true_iff] at h
  exact ⟨h.1, (nI h.1).1, (nI h.1).2, h.2.1⟩
theorem k4f {ms : List (List Int)} (h : l5 ms = true) : 1 ≤ ms.length := (of_decide_eq_true h).1
attribute [local irreducible] aJ yV aC d5 vE kD kC yA nB dH nD nC knK eA l5
theorem u7v {l : List Int} (h : Byt l) : eY (boX l).k (boX l).r (boX l).rn (boX l).m (boX l).s (boX l).sn = true := by
  have b1 : Byt (bo1 l) := qI _ (qI _ h)
  have b2 : Byt (bo2 l) := vS b1 _
  have b3 : Byt (bo3 l) := aA b2
  have b4 : Byt (bo4 l) := aA b3
  have b5 : Byt (bo5 l) := qI _ b4
  have n1 := q8 (uA (bo2 l) 5) 5 (yU b2 5)
  have n2 := q8 (uA (bo3 l) 4) 4 (yU b3 4)
  have n3 := q8 (bo4 l) 3 b4
  obtain ⟨r1, r2, r3⟩ := k10 u9h (by decide) (bo2 l) (by show kD _ 5 < 5; omega)
  obtain ⟨s1, s2, s3⟩ := k10 u93 (by decide) (bo3 l) (by show kD _ 4 < 4; omega)
  have m1 := v0m (bo5 l) (boN l) (by unfold boN; omega)
  have m2 := z8 (bo5 l) (boN l)
  have m3 : boN l ≤ 3 := by unfold boN; omega
  show eY (xH l) (xG l) (tM l) (j7 l) (xF l) (tL l) = true
  unfold xG tM j7 xF tL
  exact k3u (u4x h).ok.1 (u3p r3 r1 (by omega) (by decide) (by decide)) (k4e (v0l b5 _) m1 (by omega)) (u3p s3 s1 (by omega) (by decide) (by decide))
def BxV (b : Bx) : Prop := zA b ∧ KG b.k ∧ eY b.k b.r b.rn b.m b.s b.sn = true
def BsV (bs : List Bx) : Prop := ∀ b ∈ bs, BxV b
theorem vN {k : Int} {r : List Int} {rn : Nat} {m : List (List Int)} {s : List Int} {sn : Nat} (h : eY k r rn m s sn = true) : (¬ k = 0 ∧ iP k = 0) ∧ eA r rn 1000 768000 = true ∧ l5 m = true ∧ eA s sn 1 65536 = true := by
  unfold eY at h
  rw [Bool.and_eq_true, Bool.and_eq_true, Bool.and_eq_true, decide_eq_true_iff] at h
  exact h
theorem BxV.g {b : Bx} (h : BxV b) : BxG b := by
  obtain ⟨h1, h2, h3⟩ := h
  obtain ⟨_, p2, p3, p4⟩ := vN h3
  obtain ⟨_, _, r3, r4⟩ := dD p2
  obtain ⟨_, _, s3, s4⟩ := dD p4
  exact ⟨h1, by omega, by omega, k4f p3, h2.ok.2⟩
theorem BsV.g {bs : List Bx} (h : BsV bs) : BsG bs := fun b hb => (h b hb).g
theorem BsV.w {bs : List Bx} (h : BsV bs) : BsW bs := fun b hb => (h b hb).1
theorem BsV.vb {bs : List Bx} (h : BsV bs) (hn : bs.length ≤ 64) : bY bs = true := u5r hn fun i hi => (h _ (qR hi)).2.2
theorem BsV.eq {bs : List Bx} (h : BsV bs) (hn : bs.length ≤ 64) : kK bs = bs := k2e (h.vb hn)
theorem BsV.nil : BsV [] := fun b hb => by cases hb
theorem BsV.app {a b : List Bx} (h : BsV a) (h2 : BsV b) : BsV (a ++ b) := fun m hm => (List.mem_append.1 hm).elim (h m) (h2 m)
theorem BsV.one {b : Bx} (h : BxV b) : BsV [b] := fun m hm => by rw [List.mem_singleton.1 hm]; exact h
theorem BsV.box {xs : List Bx} (h : BsV xs) {i : Nat} (hi : i < xs.length) : BxV (kE (kR xs i) (k8 xs i) (kU xs i) (kS xs i) (kZ xs i) (kT xs i)) := h _ (qR hi)
theorem u51 {l : List Int} (h : Byt l) : ∀ i, BsV (bbL l i)
  | 0 => BsV.nil
  | i + 1 => (u51 h i).app (BsV.one ⟨u4w _, u4x (fN h i), u7v (fN h i)⟩)
end Go.Proofs.YtbicifcgghmhaaaGreat
