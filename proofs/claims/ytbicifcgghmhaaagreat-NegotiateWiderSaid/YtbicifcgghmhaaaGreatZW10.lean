/- Merged texts. -/
import Derived.Test.YtbicifcgghmhaaaGreatZL10M
import Derived.Test.YtbicifcgghmhaaaGreatZL10G
namespace Go.Proofs.YtbicifcgghmhaaaGreat
open Go.ChangeShapes Go.WideShapes Go.ChangeAt Go.RowKit
set_option linter.unusedVariables false
set_option linter.unusedSimpArgs false
/-! chapter 10: the best choice is in the list, and no other one is better -/
theorem k6b {a b : Int} (h1 : a ≤ 0) (h2 : b ≤ 0) : yB a b ≤ 0 := by unfold yB; split <;> assumption
theorem k32 (b w : Int) : ∀ j, (cA b w j = 0 ∧ ∀ q, 1 ≤ q → q ≤ j → gQ b q = false) ∨ (∃ q : Nat, 1 ≤ q ∧ q ≤ j ∧ cA b w j = (q : Int) ∧ gQ b q = true ∧ ∀ p : Nat, 1 ≤ p → p ≤ j → gQ b p = true → b7 w (q : Int) (p : Int) ≤ 0)
  | 0 => .inl ⟨rfl, fun q h1 h2 => by omega⟩
  | j + 1 => by
    have ih := k32 b w j
    cases hk : gQ b (j + 1) with
    | false =>
      have e : cA b w (j + 1) = cA b w j := v34 rfl hk
      rw [e]
      rcases ih with ⟨h1, h2⟩ | ⟨q, h1, h2, h3, h4, h5⟩
      · refine .inl ⟨h1, fun q h3 h4 => ?_⟩
        by_cases e2 : q = j + 1
        · rw [e2]; exact hk
        · exact h2 q h3 (by omega)
      · refine .inr ⟨q, h1, by omega, h3, h4, fun p h6 h7 h8 => ?_⟩
        by_cases e2 : p = j + 1
        · rw [e2, hk] at h8; cases h8
        · exact h5 p h6 (by omega) h8
    | true =>
      rcases ih with ⟨h1, h2⟩ | ⟨q, h1, h2, h3, h4, h5⟩
      · refine .inr ⟨j + 1, by omega, Nat.le_refl _, by rw [u3p rfl hk (.inl h1) rfl]; omega, hk, fun p h6 h7 h8 => ?_⟩
        by_cases e2 : p = j + 1
        · rw [e2]; exact Int.le_of_eq ((iM w).zero _)
        · rw [h2 p h6 (by omega)] at h8; cases h8
      · by_cases hc : b7 w ((j : Int) + 1) (cA b w j) < 0
        · refine .inr ⟨j + 1, by omega, Nat.le_refl _, by rw [u3p rfl hk (.inr hc) rfl]; omega, hk, fun p h6 h7 h8 => ?_⟩
          by_cases e2 : p = j + 1
          · rw [e2]; exact Int.le_of_eq ((iM w).zero _)
          · rw [h3] at hc
            exact (iM w).tr _ (q : Int) _ (by rw [show ((j + 1 : Nat) : Int) = (j : Int) + 1 by omega]; omega) (h5 p h6 (by omega) h8)
        · refine .inr ⟨q, h1, by omega, by rw [v33 rfl (by omega) hc]; exact h3, h4, fun p h6 h7 h8 => ?_⟩
          by_cases e2 : p = j + 1
          · rw [h3] at hc
            have := (iM w).anti (q : Int) ((j : Int) + 1)
            rw [e2, show ((j + 1 : Nat) : Int) = (j : Int) + 1 by omega]; omega
          · exact h5 p h6 (by omega) h8
theorem k31 (w : List Int) (ms : List (List Int)) : ∀ j, 1 ≤ j → j ≤ ms.length → eM w ms j ∈ ms ∧ ∀ i, i < j → bX w (eM w ms j) (List.getD ms i []) ≤ 0
  | 0, h, _ => absurd h (by decide)
  | j + 1, _, hj => by
    have hm : List.getD ms j [] ∈ ms := by
      rw [List.getD_eq_getElem?_getD, List.getElem?_eq_getElem (by omega : j < ms.length)]; exact List.getElem_mem _
    by_cases h0 : j = 0
    · subst h0
      rw [v32 (w := w) (ms := ms) rfl]
      refine ⟨hm, fun i hi => ?_⟩
      obtain rfl : i = 0 := by omega
      exact Int.le_of_eq ((iI w).zero _)
    · obtain ⟨h1, h2⟩ := k31 w ms j zo zo
      by_cases hc : bX w (List.getD ms j []) (eM w ms j) < 0
      · rw [v30 rfl hc rfl]
        refine ⟨hm, fun i hi => ?_⟩
        by_cases e : i = j
        · rw [e]; exact Int.le_of_eq ((iI w).zero _)
        · exact (iI w).tr _ _ _ (by omega) (h2 i (by omega))
      · rw [v31 rfl h0 hc]
        refine ⟨h1, fun i hi => ?_⟩
        by_cases e : i = j
        · have := (iI w).anti (eM w ms j) (List.getD ms j [])
          rw [e]; omega
        · exact h2 i (by omega)
theorem k26 {z : Int} {l : List Int} {n : Nat} (hl : l.length = n * 2) (h1 : 1 ≤ kZ l n) : bA (kB l n) (vA z (kB l n)) = true ∧ ∀ x, bA (kB l n) x = true → bQ z (vA z (kB l n)) x ≤ 0 := by
  have hok := bC hl
  have hlen := qZ (qR hl)
  unfold vA
  generalize hs : qO (kB l n) = s at *
  cases s with
  | nil => simp only [List.length_nil] at hlen; omega
  | cons p r =>
    have hp := hok.1
    unfold dD at hp
    have hc : p.1 ≤ gV z p ∧ gV z p ≤ p.2 := by unfold gV; omega
    have h0 : nrP z (p :: r) none = nrP z r (some (gV z p)) := rfl
    obtain ⟨w, hw⟩ := r8 z r (gV z p)
    obtain ⟨i1, i2, i3⟩ := r9 z r (gV z p) w hok.2.2 (fun q hq => by have := hok.2.1 q hq; omega) hw
    rw [h0, hw]
    show bA (kB l n) w = true ∧ ∀ x, bA (kB l n) x = true → bQ z w x ≤ 0
    refine ⟨yZ.2 (by rw [hs]; exact qP.2 (i1.imp (fun e => by rw [e]; exact hc) id)), fun x hx => ?_⟩
    have hx := yZ.1 hx
    rw [hs] at hx
    have hd : aL w z < aL x z ∨ (aL w z = aL x z ∧ w ≤ x) := by
      rcases qP.1 hx with hx | hx
      · have := s7 hp.2.1 z x hx
        rcases this with h9 | h9 | h9
        · omega
        · rw [← h9]; omega
        · omega
      · exact i3 x hx
    have a1 : eF z w = aL w z := by unfold eF aL; (repeat' split) <;> omega
    have a2 : eF z x = aL x z := by unfold eF aL; (repeat' split) <;> omega
    unfold bQ yB u9
    rw [a1, a2]
    (repeat' split) <;> omega
def BxG (b : Bx) : Prop := zS b ∧ 1 ≤ kZ b.r b.rn ∧ 1 ≤ kZ b.s b.sn ∧ 1 ≤ List.length b.m ∧ ∃ q, 1 ≤ q ∧ q ≤ 7 ∧ gQ b.k q = true
theorem l7 {b : Bx} (h : BxG b) (w : Co) : eO b.k b.r b.rn b.m b.s b.sn (bxC b w).k (bxC b w).r (bxC b w).m (bxC b w).s = true ∧ ∀ c : Co, eO b.k b.r b.rn b.m b.s b.sn c.k c.r c.m c.s = true → n4 w (bxC b w) c ≤ 0 := by
  obtain ⟨⟨hr, hs, _⟩, h1, h2, h3, q, q1, q2, q3⟩ := h
  obtain ⟨r1, r2⟩ := k26 (z := w.r) hr h1
  obtain ⟨s1, s2⟩ := k26 (z := w.s) hs h2
  obtain ⟨m1, m2⟩ := k31 w.m b.m b.m.length h3 (Nat.le_refl _)
  rcases k32 b.k w.k 7 with ⟨_, k2⟩ | ⟨p, p1, p2, p3, p4, p5⟩
  · rw [k2 q q1 q2] at q3; cases q3
  · have ek : (bxC b w).k = (p : Int) := p3
    refine ⟨v35 (by rw [ek, u7w]; exact p4) r1 (decide_eq_true m1) s1, fun c hc => ?_⟩
    unfold eO at hc
    rw [Bool.and_eq_true, Bool.and_eq_true, Bool.and_eq_true] at hc
    obtain ⟨c1, c2, c3, c4⟩ := hc
    unfold kjB at c1
    rw [Bool.and_eq_true, decide_eq_true_iff] at c1
    refine k6b ?_ (k6b (r2 _ c2) (k6b ?_ (s2 _ c4)))
    · rw [ek]
      have := p5 c.k.toNat (by omega) (by omega) c1.2
      rw [show ((c.k.toNat : Nat) : Int) = c.k by omega] at this; exact this
    · obtain ⟨i, hi, e⟩ := List.mem_iff_getElem.1 (of_decide_eq_true c3)
      have := m2 i hi
      rw [show List.getD b.m i [] = c.m by rw [List.getD_eq_getElem?_getD, List.getElem?_eq_getElem hi]; exact e] at this
      exact this
def BsG (bs : List Bx) : Prop := ∀ b ∈ bs, BxG b
def hcB (bs : List Bx) (c : Co) : Prop := ∃ b ∈ bs, eO b.k b.r b.rn b.m b.s b.sn c.k c.r c.m c.s = true
theorem qM {bs : List Bx} {i : Nat} (h : i < bs.length) : u2 bs i ∈ bs := by
  unfold u2; rw [List.getD_eq_getElem?_getD, List.getElem?_eq_getElem h]; exact List.getElem_mem _
theorem k7u {bs : List Bx} {ck cr : Int} {cm : List Int} {cz : Int} : xH bs ck cr cm cz = true ↔ hcB bs ⟨ck, cr, cm, cz⟩ := by
  unfold xH; rw [decide_eq_true_iff]
  constructor
  · rintro ⟨i, hi, h⟩
    exact ⟨u2 bs i, qM hi, h⟩
  · rintro ⟨b, hb, h⟩
    obtain ⟨i, hi, rfl⟩ := List.mem_iff_getElem.1 hb
    have e : u2 bs i = bs[i] := by unfold u2; rw [List.getD_eq_getElem?_getD, List.getElem?_eq_getElem hi]; rfl
    exact ⟨i, hi, by unfold biE kQ kY kV kT kX kU; rw [e]; exact h⟩
theorem k33 {bs : List Bx} (h : BsG bs) (w : Co) : ∀ j, 1 ≤ j → j ≤ bs.length → hcB bs (pR bs w j) ∧ ∀ i, i < j → ∀ c : Co, eO (u2 bs i).k (u2 bs i).r (u2 bs i).rn (u2 bs i).m (u2 bs i).s (u2 bs i).sn c.k c.r c.m c.s = true → n4 w (pR bs w j) c ≤ 0
  | 0, h, _ => absurd h (by decide)
  | j + 1, _, hj => by
    have hg := qM (bs := bs) (i := j) (by omega)
    obtain ⟨g1, g2⟩ := l7 (h _ hg) w
    by_cases h0 : j = 0
    · subst h0
      rw [show pR bs w 1 = bxC (u2 bs 0) w from if_pos (.inl rfl)]
      refine ⟨⟨_, hg, g1⟩, fun i hi c hc => ?_⟩
      obtain rfl : i = 0 := by omega
      exact g2 c hc
    · obtain ⟨h1, h2⟩ := k33 h w j zo zo
      by_cases hc : n4 w (bxC (u2 bs j) w) (pR bs w j) < 0
      · rw [show pR bs w (j + 1) = bxC (u2 bs j) w from if_pos (.inr hc)]
        refine ⟨⟨_, hg, g1⟩, fun i hi c hc2 => ?_⟩
        by_cases e : i = j
        · subst e; exact g2 c hc2
        · exact (iU w).tr _ _ _ (by omega) (h2 i (by omega) c hc2)
      · rw [show pR bs w (j + 1) = pR bs w j from if_neg fun e => e.elim h0 hc]
        refine ⟨h1, fun i hi c hc2 => ?_⟩
        by_cases e : i = j
        · subst e
          have := (iU w).anti (pR bs w i) (bxC (u2 bs i) w)
          exact (iU w).tr _ _ _ (by omega) (g2 c hc2)
        · exact h2 i (by omega) c hc2
theorem u3r {bs : List Bx} (h : BsG bs) (h1 : 1 ≤ bs.length) (w : Co) : hcB bs (pR bs w bs.length) ∧ ∀ c, hcB bs c → n4 w (pR bs w bs.length) c ≤ 0 := by
  obtain ⟨i1, i2⟩ := k33 h w bs.length h1 (Nat.le_refl _)
  refine ⟨i1, fun c ⟨b, hb, hc⟩ => ?_⟩
  obtain ⟨i, hi, rfl⟩ := List.mem_iff_getElem.1 hb
  have e : u2 bs i = bs[i] := by unfold u2; rw [List.getD_eq_getElem?_getD, List.getElem?_eq_getElem hi]; rfl
  exact i2 i hi c (by rw [e]; exact hc)
end Go.Proofs.YtbicifcgghmhaaaGreat
namespace Go.Proofs.YtbicifcgghmhaaaGreat
open Go.ChangeShapes Go.WideShapes Go.ChangeAt Go.RowKit
set_option linter.unusedVariables false
set_option linter.unusedSimpArgs false
/-! chapter 10: boxes out of dice are valid -/
theorem u4x (l : List Int) (h : Byt l) : ∃ q : Nat, 1 ≤ q ∧ q ≤ 7 ∧ kbV l = ((2 ^ q : Nat) : Int) := by
  have h2 := q8 l 7 h
  refine ⟨1 + kD l 7, by omega, by omega, ?_⟩
  unfold kbV
  have h3 : kD l 7 < 7 := by omega
  generalize kD l 7 = n at *
  match n, h3 with
  | 0, _ => rfl
  | 1, _ => rfl
  | 2, _ => rfl
  | 3, _ => rfl
  | 4, _ => rfl
  | 5, _ => rfl
  | 6, _ => rfl
def KG (k : Int) : Prop := 2 ≤ k ∧ k ≤ 254 ∧ k % 2 = 0
def orC : Bool := (List.range 127).all fun n => (List.range 7).all fun q => decide (2 ≤ orI (2 * (n : Int) + 2) ((2 ^ (q + 1) : Nat) : Int) ∧ orI (2 * (n : Int) + 2) ((2 ^ (q + 1) : Nat) : Int) ≤ 254 ∧ orI (2 * (n : Int) + 2) ((2 ^ (q + 1) : Nat) : Int) % 2 = 0)
theorem v1a : orC = true := by kernel_rfl
theorem KG.or {k : Int} (h : KG k) {q : Nat} (h1 : 1 ≤ q) (h2 : q ≤ 7) : KG (orI k ((2 ^ q : Nat) : Int)) := by
  unfold KG at h
  obtain ⟨n, rfl⟩ : ∃ n : Nat, k = 2 * (n : Int) + 2 := ⟨((k - 2) / 2).toNat, by omega⟩
  obtain ⟨r, rfl⟩ : ∃ r, q = r + 1 := ⟨q - 1, by omega⟩
  have h9 := List.all_eq_true.1 (List.all_eq_true.1 v1a n (List.mem_range.2 (by omega))) r (List.mem_range.2 (by omega))
  have h8 := of_decide_eq_true h9
  exact h8
theorem KG.one {q : Nat} (h1 : 1 ≤ q) (h2 : q ≤ 7) : KG ((2 ^ q : Nat) : Int) := by
  match q, h1, h2 with
  | 1, _, _ => exact ⟨by decide, by decide, by decide⟩
  | 2, _, _ => exact ⟨by decide, by decide, by decide⟩
  | 3, _, _ => exact ⟨by decide, by decide, by decide⟩
  | 4, _, _ => exact ⟨by decide, by decide, by decide⟩
  | 5, _, _ => exact ⟨by decide, by decide, by decide⟩
  | 6, _, _ => exact ⟨by decide, by decide, by decide⟩
  | 7, _, _ => exact ⟨by decide, by decide, by decide⟩
theorem v20 {l : List Int} {k : Int} (hl : Byt l) (hk : KG k) : ∀ i, KG (knK l k i)
  | 0 => hk
  | i + 1 => by
    obtain ⟨q, h1, h2, e⟩ := u4x (dL l i) (vW hl i)
    show KG (orI (knK l k i) (kbV (dL l i)))
    rw [e]; exact (v20 hl hk i).or h1 h2
theorem u0a {l : List Int} (h : Byt l) : KG (eL l) := by
  unfold eL bo1
  obtain ⟨q, h1, h2, e⟩ := u4x l h
  rw [e]; exact v20 (qH _ (qH _ h)) (KG.one h1 h2) _
def kgC : Bool := (List.range 127).all fun n => decide (jE (2 * (n : Int) + 2) = 0) && (List.range 7).any fun q => decide (eI ((2 * (n : Int) + 2) / ((2 ^ (q + 1) : Nat) : Int)) = 1)
theorem v22 : kgC = true := by kernel_rfl
theorem KG.ok {k : Int} (h : KG k) : (¬ k = 0 ∧ jE k = 0) ∧ ∃ q, 1 ≤ q ∧ q ≤ 7 ∧ gQ k q = true := by
  unfold KG at h
  obtain ⟨n, rfl⟩ : ∃ n : Nat, k = 2 * (n : Int) + 2 := ⟨((k - 2) / 2).toNat, by omega⟩
  have h1 := List.all_eq_true.1 v22 n (List.mem_range.2 (by omega))
  rw [Bool.and_eq_true, decide_eq_true_iff] at h1
  obtain ⟨q, hq, h2⟩ := List.any_eq_true.1 h1.2
  have hq := List.mem_range.1 hq
  exact ⟨⟨by omega, h1.1⟩, q + 1, by omega, by omega, decide_eq_true ⟨by omega, by omega, of_decide_eq_true h2⟩⟩
/-! sets -/
def SpB (l : List Int) (n : Nat) (lo hi : Int) : Prop := l.length = n * 2 ∧ ∀ p ∈ qO l, lo ≤ p.1 ∧ p.1 ≤ p.2 ∧ p.2 ≤ hi
theorem u1s (a b : Int) : qO [a, b] = [(a, b)] := rfl
theorem u4b {sp : List Int} {n : Nat} {lo hi : Int} (h : SpB sp n lo hi) (l : List Int) : ∀ i, i ≤ n → ∃ k, k ≤ i ∧ SpB (rK sp l i) k lo hi
  | 0, _ => ⟨0, Nat.le_refl _, rfl, fun p hp => by cases hp⟩
  | i + 1, hi_ => by
    obtain ⟨k, hk, hl, hb⟩ := u4b h l i zo
    rw [rK]; split
    · refine ⟨k + 1, by omega, by rw [List.length_append]; simp only [List.length_cons, List.length_nil]; omega, fun p hp => ?_⟩
      rw [wF hl] at hp
      rcases List.mem_append.1 hp with hp | hp
      · exact hb p hp
      · rw [List.mem_singleton.1 hp]; exact h.2 _ ((u7 h.1).2 ⟨i, by omega, rfl⟩)
    · exact ⟨k, by omega, hl, hb⟩
theorem k1h {sp : List Int} {n : Nat} {lo hi : Int} (h : SpB sp n lo hi) (h1 : 1 ≤ n) (l : List Int) (hl : kD (uA l n) (n : Int) < n) : 1 ≤ aG sp l n ∧ aG sp l n ≤ n ∧ SpB (aN sp l n) (aG sp l n) lo hi := by
  obtain ⟨k, hk, h2, h3⟩ := u4b h l n (Nat.le_refl _)
  by_cases e : rK sp l n = []
  · have e1 : aN sp l n = [List.getD sp (kD (uA l n) (n : Int) * 2) 0, List.getD sp (kD (uA l n) (n : Int) * 2 + 1) 0] := if_pos e
    have e2 : aG sp l n = 1 := by simp [aG, e1]
    rw [e2, e1]
    refine ⟨Nat.le_refl _, h1, rfl, fun p hp => ?_⟩
    rw [u1s] at hp
    rw [List.mem_singleton.1 hp]; exact h.2 _ ((u7 h.1).2 ⟨_, hl, rfl⟩)
  · have e1 : aN sp l n = rK sp l n := if_neg e
    have e2 : aG sp l n = k := by unfold aG; rw [e1, h2]; omega
    have hk0 : k ≠ 0 := fun e3 => e (List.eq_nil_of_length_eq_zero (by omega))
    rw [e2, e1]
    exact ⟨by omega, hk, h2, h3⟩
theorem u7s {l : List Int} {n : Nat} (hl : l.length = n * 2) (hr : RG l n) (z : Int) : bZ (qO (tY l)) z ↔ bZ (qO l) z := by
  unfold tY; rw [gO]; exact (k6y (hr.v hl)).2.1 z
theorem u4v {l : List Int} {n : Nat} {lo hi : Int} (h : SpB l n lo hi) (h1 : 1 ≤ n) (h2 : n ≤ 64) (hlo : 0 ≤ lo) (hhi : hi ≤ 2147483647) : eG (d9 l n) (vI l n) lo hi = true := by
  obtain ⟨hl, hb⟩ := h
  have hr : RG l n := u14 hl fun p hp => by have := hb p hp; unfold dD; omega
  have hj := k7j hl hr
  obtain ⟨_, e1, e2⟩ := sB (jO.2 hr) zo
  have hva := u7p hl
  have hlen := k0h l
  have hok : bW (qO (tY l)) := by rw [← e1]; exact k71 hl
  have hme : ∀ z, bZ (qO (tY l)) z ↔ bZ (qO l) z := u7s hl hr
  rw [e1, e2] at *
  have hsv : ∀ p ∈ qO (tY l), lo ≤ p.1 ∧ p.1 ≤ p.2 ∧ p.2 ≤ hi := fun p hp => by
    have hv := cW hok p hp
    unfold dD at hv
    obtain ⟨q, hq, q1⟩ := (hme p.1).1 ⟨p, hp, by omega⟩
    obtain ⟨r, hr_, r1⟩ := (hme p.2).1 ⟨p, hp, by omega⟩
    have b1 := hb q hq; have b2 := hb r hr_
    omega
  have hn : 1 ≤ lX l := by
    have hm : (List.getD l (0 * 2) 0, List.getD l (0 * 2 + 1) 0) ∈ qO l := (u7 hl).2 ⟨0, by omega, rfl⟩
    have b1 := hb _ hm
    obtain ⟨q, hq, _⟩ := (hme (List.getD l (0 * 2) 0)).2 ⟨_, hm, by simp only at b1 ⊢; omega⟩
    have : 0 < (qO (tY l)).length := List.length_pos_of_mem hq
    rw [qZ hlen] at this; exact this
  have f1 := hsv _ ((u7 hlen).2 ⟨0, by omega, rfl⟩)
  have f2 := hsv _ ((u7 hlen).2 ⟨lX l - 1, by omega, rfl⟩)
  exact k4z hva ⟨hn, f1.1, f2.2.2⟩
/-! maps -/
theorem v1o : ∀ m ∈ nE, t4 m m.length = true := by decide
theorem u7o {l : List Int} (h : Byt l) : yC l ∈ nE := by
  have h2 := q8 l 7 h
  have h3 : kD l 7 < nE.length := by show _ < 7; omega
  unfold yC
  rw [List.getD_eq_getElem?_getD, List.getElem?_eq_getElem h3]; exact List.getElem_mem h3
theorem u6v {ms : List (List Int)} {m : List Int} (h : nW ms m = false) : m ∉ ms := fun hm => by
  have : nW ms m = true := List.any_eq_true.2 ⟨m, hm, decide_eq_true ⟨rfl, rfl⟩⟩
  rw [this] at h; cases h
def MsV (ms : List (List Int)) : Prop := (∀ m ∈ ms, t4 m m.length = true) ∧ ms.Pairwise fun a b => a ≠ b
theorem v1m {l : List Int} (h : Byt l) : ∀ i, MsV (nX l i)
  | 0 => ⟨fun m hm => (by cases hm), List.Pairwise.nil⟩
  | i + 1 => by
    obtain ⟨h1, h2⟩ := v1m h i
    rw [nX]; split
    · exact ⟨h1, h2⟩
    · rename_i hn
      have hn : nW (nX l i) (yC (nY l i)) = false := by simpa using hn
      refine ⟨fun m hm => ?_, List.pairwise_append.2 ⟨h2, List.pairwise_singleton .., fun a ha b hb => ?_⟩⟩
      · rcases List.mem_append.1 hm with hm | hm
        · exact h1 m hm
        · rw [List.mem_singleton.1 hm]; exact v1o _ (u7o (iH h i))
      · rw [List.mem_singleton.1 hb]; intro e; exact u6v hn (e ▸ ha)
theorem v1n (l : List Int) : ∀ i, 1 ≤ i → 1 ≤ (nX l i).length
  | 0, h => absurd h (by decide)
  | i + 1, _ => by
    rw [nX]; split
    · rename_i hn
      cases e : nX l i with
      | nil => rw [e] at hn; cases hn
      | cons a r => rw [List.length_cons]; omega
    · rw [List.length_append, List.length_singleton]; omega
theorem k51 {ms : List (List Int)} (h : MsV ms) (h1 : 1 ≤ ms.length) (h2 : ms.length ≤ 16) : mM ms = true := by
  refine u9r h1 h2 fun i hi => u46 ?_ ?_
  · rw [show List.getD ms i [] = ms[i] by rw [List.getD_eq_getElem?_getD, List.getElem?_eq_getElem hi]; rfl]
    exact h.1 _ (List.getElem_mem hi)
  · rw [show List.getD ms i [] = ms[i] by rw [List.getD_eq_getElem?_getD, List.getElem?_eq_getElem hi]; rfl]
    refine decide_eq_false fun hm => ?_
    obtain ⟨j, hj, e⟩ := List.mem_iff_getElem.1 hm
    rw [List.length_take] at hj
    rw [List.getElem_take] at e
    exact List.pairwise_iff_getElem.1 h.2 j i (by omega) hi (by omega) e
/-! boxes -/
theorem v0k : SpB rtT 5 1000 768000 := ⟨rfl, by decide⟩
theorem v03 : SpB szT 4 1 65536 := ⟨rfl, by decide⟩
theorem dG {l : List Int} {n : Nat} {lo hi : Int} (h : eG l n lo hi = true) : eH l n = true ∧ kB l n = l ∧ kZ l n = n ∧ 1 ≤ n := by
  unfold eG at h
  rw [Bool.and_eq_true, decide_eq_true_iff] at h
  exact ⟨h.1, (n7 h.1).1, (n7 h.1).2, h.2.1⟩
theorem k52 {ms : List (List Int)} (h : mM ms = true) : 1 ≤ ms.length := (of_decide_eq_true h).1
attribute [local irreducible] aN yV aG d9 vI kD kC yC nW dL nY nX knK eG mM
theorem u08 {l : List Int} (h : Byt l) : fF (boX l).k (boX l).r (boX l).rn (boX l).m (boX l).s (boX l).sn = true := by
  have b1 : Byt (bo1 l) := qH _ (qH _ h)
  have b2 : Byt (bo2 l) := vW b1 _
  have b3 : Byt (bo3 l) := aE b2
  have b4 : Byt (bo4 l) := aE b3
  have b5 : Byt (bo5 l) := qH _ b4
  have n1 := q8 (uA (bo2 l) 5) 5 (yU b2 5)
  have n2 := q8 (uA (bo3 l) 4) 4 (yU b3 4)
  have n3 := q8 (bo4 l) 3 b4
  obtain ⟨r1, r2, r3⟩ := k1h v0k (by decide) (bo2 l) (by show kD _ 5 < 5; omega)
  obtain ⟨s1, s2, s3⟩ := k1h v03 (by decide) (bo3 l) (by show kD _ 4 < 4; omega)
  have m1 := v1n (bo5 l) (boN l) (by unfold boN; omega)
  have m2 := k0f (bo5 l) (boN l)
  have m3 : boN l ≤ 3 := by unfold boN; omega
  show fF (eL l) (eK l) (eD l) (b9 l) (eJ l) (eC l) = true
  unfold eK eD b9 eJ eC
  exact k4g (u0a h).ok.1 (u4v r3 r1 (by omega) (by decide) (by decide)) (k51 (v1m b5 _) m1 (by omega)) (u4v s3 s1 (by omega) (by decide) (by decide))
def BxV (b : Bx) : Prop := zS b ∧ KG b.k ∧ fF b.k b.r b.rn b.m b.s b.sn = true
def BsV (bs : List Bx) : Prop := ∀ b ∈ bs, BxV b
theorem vQ {k : Int} {r : List Int} {rn : Nat} {m : List (List Int)} {s : List Int} {sn : Nat} (h : fF k r rn m s sn = true) : (¬ k = 0 ∧ jE k = 0) ∧ eG r rn 1000 768000 = true ∧ mM m = true ∧ eG s sn 1 65536 = true := by
  unfold fF at h
  rw [Bool.and_eq_true, Bool.and_eq_true, Bool.and_eq_true, decide_eq_true_iff] at h
  exact h
theorem BxV.g {b : Bx} (h : BxV b) : BxG b := by
  obtain ⟨h1, h2, h3⟩ := h
  obtain ⟨_, p2, p3, p4⟩ := vQ h3
  obtain ⟨_, _, r3, r4⟩ := dG p2
  obtain ⟨_, _, s3, s4⟩ := dG p4
  exact ⟨h1, by omega, by omega, k52 p3, h2.ok.2⟩
theorem BsV.g {bs : List Bx} (h : BsV bs) : BsG bs := fun b hb => (h b hb).g
theorem BsV.w {bs : List Bx} (h : BsV bs) : BsW bs := fun b hb => (h b hb).1
theorem BsV.vb {bs : List Bx} (h : BsV bs) (hn : bs.length ≤ 64) : cF bs = true := u6u hn fun i hi => (h _ (qM hi)).2.2
theorem BsV.eq {bs : List Bx} (h : BsV bs) (hn : bs.length ≤ 64) : kK bs = bs := k30 (h.vb hn)
theorem BsV.nil : BsV [] := fun b hb => by cases hb
theorem BsV.app {a b : List Bx} (h : BsV a) (h2 : BsV b) : BsV (a ++ b) := fun m hm => (List.mem_append.1 hm).elim (h m) (h2 m)
theorem BsV.one {b : Bx} (h : BxV b) : BsV [b] := fun m hm => by rw [List.mem_singleton.1 hm]; exact h
theorem BsV.box {xs : List Bx} (h : BsV xs) {i : Nat} (hi : i < xs.length) : BxV (kE (kQ xs i) (kY xs i) (kV xs i) (kT xs i) (kX xs i) (kU xs i)) := h _ (qM hi)
theorem u62 {l : List Int} (h : Byt l) : ∀ i, BsV (bbL l i)
  | 0 => BsV.nil
  | i + 1 => (u62 h i).app (BsV.one ⟨u09 _, u0a (fX h i), u08 (fX h i)⟩)
end Go.Proofs.YtbicifcgghmhaaaGreat
