/- Clocks: what positions and times are. No statement is proved here. -/
import Derived.Test.YteggelophhpnfaaClt
namespace Go.Proofs.Yteggelophhpnfaa
open Go.ChangeShapes Go.WideShapes Go.ChangeAt Go.RowKit
set_option linter.unusedVariables false
set_option linter.unusedSimpArgs false

theorem ratOk_swap {n d : Int} (h : ratOk n d = true) : ratOk d n = true := by
  have h1 := ratOk_of h
  have h2 := (of_decide_eq_true h).2.2.2.2
  exact ratOk_t ⟨h1.2.2.1, h1.2.2.2⟩ ⟨h1.1, h1.2.1⟩ (by rw [Nat.gcd_comm]; exact h2)
theorem ck_seg {l : List Int} {n i : Nat} (h : ckB l n = true) (hi : i < n) : (1 ≤ l.getD (i * 3 + 1) 0 ∧ l.getD (i * 3 + 1) 0 ≤ 68719476736 ∧ 1 ≤ l.getD (i * 3 + 2) 0 ∧ l.getD (i * 3 + 2) 0 ≤ 68719476736) ∧ ratOk (l.getD (i * 3 + 1) 0) (l.getD (i * 3 + 2) 0) = true ∧ l.getD (i * 3 + 2) 0 ≤ l.getD (i * 3 + 1) 0 * 1024 ∧ l.getD (i * 3 + 1) 0 ≤ l.getD (i * 3 + 2) 0 * 1024 := by
  have h3 := (ck_of h).2 i hi
  unfold segB at h3
  rw [Bool.and_eq_true] at h3
  obtain ⟨h4, h5⟩ := rt_of h3.1
  exact ⟨ratOk_of h4, h4, h5⟩
theorem ck_asc {l : List Int} {n i : Nat} (h : ckB l n = true) (hi : i + 1 < n) : l.getD (i * 3) 0 < l.getD ((i + 1) * 3) 0 := by
  have h3 := (ck_of h).2 (i + 1) hi
  unfold segB at h3
  rw [Bool.and_eq_true] at h3
  obtain ⟨_, _, h6⟩ := of_decide_eq_true h3.2
  have h7 := h6.resolve_left (by simp)
  rwa [Nat.add_sub_cancel] at h7
theorem ck_zero {l : List Int} {n : Nat} (h : ckB l n = true) : l.getD (0 * 3) 0 = 0 := by
  have h3 := (ck_of h).2 0 (ck_of h).1.1
  unfold segB at h3
  rw [Bool.and_eq_true] at h3
  obtain ⟨_, h6, _⟩ := of_decide_eq_true h3.2
  exact h6.resolve_left (by simp)
theorem ck_mono {l : List Int} {n : Nat} (h : ckB l n = true) {i : Nat} : ∀ j, i ≤ j → j < n → l.getD (i * 3) 0 ≤ l.getD (j * 3) 0
  | 0, hij, _ => by obtain rfl : i = 0 := by omega
                    exact Int.le_refl _
  | j + 1, hij, hj => by
    by_cases e : i = j + 1
    · subst e; exact Int.le_refl _
    · exact Int.le_trans (ck_mono h j (by omega) (by omega)) (Int.le_of_lt (ck_asc h hj))
theorem ck_lt {l : List Int} {n : Nat} (h : ckB l n = true) {i j : Nat} (hij : i < j) (hj : j < n) : l.getD (i * 3) 0 < l.getD (j * 3) 0 :=
  Int.lt_of_lt_of_le (ck_asc h (by omega)) (ck_mono h j hij hj)
/-- frames in some time -/
theorem fr_in {d N W : Int} (hd : 0 ≤ d) (hN : 1 ≤ N) (hW : 1 ≤ W) (h : N ≤ W * 1024) : 0 ≤ d * N / W ∧ d * N / W ≤ 1024 * d := by
  refine ⟨Int.ediv_nonneg (Int.mul_nonneg hd (by omega)) (by omega), ?_⟩
  refine Int.ediv_le_of_le_mul (by omega) ?_
  have h1 : d * N ≤ d * (W * 1024) := Int.mul_le_mul_of_nonneg_left h hd
  rw [show 1024 * d * W = d * (W * 1024) by rw [Int.mul_comm 1024 d, Int.mul_assoc, Int.mul_comm 1024 W]]
  exact h1
theorem fr_mono {d e N W : Int} (hde : d ≤ e) (hN : 1 ≤ N) (hW : 1 ≤ W) : d * N / W ≤ e * N / W :=
  Int.ediv_le_ediv (by omega) (Int.mul_le_mul_of_nonneg_right hde (by omega))
theorem to_in {l : List Int} {n : Nat} {t : Int} {i : Nat} : toV l n t i ≤ t ∧ (i + 1 < n → toV l n t i ≤ l.getD ((i + 1) * 3) 0) := by
  unfold toV; split <;> omega
theorem to_ge {l : List Int} {n : Nat} {t : Int} {i : Nat} (h : ckB l n = true) (hi : l.getD (i * 3) 0 ≤ t) : l.getD (i * 3) 0 ≤ toV l n t i := by
  unfold toV
  split
  · have := ck_asc h (i := i) (by assumption); omega
  · exact hi
theorem fl_is {l : List Int} {n : Nat} {t : Int} {i : Nat} (h : ckB l n = true) (ht : t ≤ 1099511627776) (hin : i < n) (hi : l.getD (i * 3) 0 ≤ t) :
    flV l n t i = (toV l n t i - l.getD (i * 3) 0) * l.getD (i * 3 + 1) 0 / l.getD (i * 3 + 2) 0 ∧ 0 ≤ flV l n t i ∧ flV l n t i ≤ 1024 * (toV l n t i - l.getD (i * 3) 0) := by
  obtain ⟨h1, h2, h3, h4⟩ := ck_seg h hin
  have h5 := to_ge h hi (n := n)
  have h6 := (to_in (l := l) (n := n) (t := t) (i := i)).1
  have h7 := (ck_rg h i hin).1
  have h8 := fr_in (d := toV l n t i - l.getD (i * 3) 0) (by omega) h1.1 h1.2.2.1 h4
  have h9 : flV l n t i = (toV l n t i - l.getD (i * 3) 0) * l.getD (i * 3 + 1) 0 / l.getD (i * 3 + 2) 0 := (vR_in h2 (by omega) (by omega)).1
  rw [h9]; exact ⟨rfl, h8⟩
theorem ps_step {l : List Int} {n : Nat} {t : Int} (h : ckB l n = true) (ht : 0 ≤ t ∧ t ≤ 1099511627776) : ∀ k, k < n → (∀ i, i ≤ k → l.getD (i * 3) 0 ≤ t) →
    psV l n t (k + 1) = psV l n t k + flV l n t k ∧ 0 ≤ flV l n t k ∧ 0 ≤ psV l n t k ∧ psV l n t k ≤ 1024 * l.getD (k * 3) 0 ∧ psV l n t (k + 1) ≤ 1024 * toV l n t k := by
  intro k
  induction k with
  | zero =>
    intro hk hi
    obtain ⟨h1, h2, h3⟩ := fl_is h ht.2 hk (hi 0 (Nat.le_refl _))
    have h4 := ck_zero h
    have h5 := (to_in (l := l) (n := n) (t := t) (i := 0)).1
    have e0 : psV l n t 0 = 0 := rfl
    have e : psV l n t (0 + 1) = psV l n t 0 + flV l n t 0 := by
      show wrap64 (psV l n t 0 + flV l n t 0) = _
      exact wr64 (by rw [e0]; omega)
    rw [e, e0]
    exact ⟨rfl, h2, Int.le_refl _, by omega, by omega⟩
  | succ k ih =>
    intro hk hi
    obtain ⟨i1, i2, i3, i4, i5⟩ := ih (by omega) (fun i hi' => hi i (by omega))
    obtain ⟨h1, h2, h3⟩ := fl_is h ht.2 hk (hi (k + 1) (Nat.le_refl _))
    have h5 := (to_in (l := l) (n := n) (t := t) (i := k + 1)).1
    have h6 := (to_in (l := l) (n := n) (t := t) (i := k)).2 hk
    have e : psV l n t (k + 1 + 1) = psV l n t (k + 1) + flV l n t (k + 1) := wr64 (by omega)
    exact ⟨e, h2, by omega, by omega, by omega⟩
theorem ps_eq {l : List Int} {n : Nat} {t : Int} (h : ckB l n = true) (ht : t ≤ 1099511627776) : ∀ k, k < n → l.getD (k * 3) 0 ≤ t → psV l n t k = psV l n 1099511627776 k
  | 0, _, _ => rfl
  | k + 1, hk, hf => by
    have h1 := ck_asc h hk
    have h2 : toV l n t k = l.getD ((k + 1) * 3) 0 := by unfold toV; rw [if_pos hk]; omega
    have h3 : toV l n 1099511627776 k = l.getD ((k + 1) * 3) 0 := by unfold toV; rw [if_pos hk]; omega
    show wrap64 (psV l n t k + flV l n t k) = wrap64 (psV l n 1099511627776 k + flV l n 1099511627776 k)
    rw [ps_eq h ht k (by omega) (by omega)]
    unfold flV
    rw [h2, h3]
theorem pos_at {l : List Int} {n : Nat} {t : Int} {j : Nat} (h : ckB l n = true) (ht : 0 ≤ t ∧ t ≤ 1099511627776) (hj : j < n) (h1 : l.getD (j * 3) 0 ≤ t) (h2 : j + 1 < n → t ≤ l.getD ((j + 1) * 3) 0) :
    posV l n t = psV l n 1099511627776 j + (t - l.getD (j * 3) 0) * l.getD (j * 3 + 1) 0 / l.getD (j * 3 + 2) 0 := by
  have hall : ∀ i, i ≤ j → l.getD (i * 3) 0 ≤ t := fun i hi => Int.le_trans (ck_mono h j hi hj) h1
  have s1 := (ps_step h ht j hj hall).1
  have f1 := (fl_is h ht.2 hj h1).1
  have t1 : toV l n t j = t := by unfold toV; split <;> omega
  rw [t1] at f1
  rw [ps_eq h ht.2 j hj h1, f1] at s1
  by_cases hl : j + 1 < n ∧ t = l.getD ((j + 1) * 3) 0
  · have hall2 : ∀ i, i ≤ j + 1 → l.getD (i * 3) 0 ≤ t := fun i hi => by
      by_cases e : i = j + 1
      · subst e; omega
      · exact hall i (by omega)
    have s2 := (ps_step h ht (j + 1) hl.1 hall2).1
    have f2 := (fl_is h ht.2 hl.1 (hall2 (j + 1) (Nat.le_refl _))).1
    have t2 : toV l n t (j + 1) = t := by
      unfold toV; split
      · have := ck_asc h (i := j + 1) (by assumption); omega
      · rfl
    rw [t2, ← hl.2, Int.sub_self, Int.zero_mul, Int.zero_ediv] at f2
    rw [posV_of (k := j + 1 + 1) (by omega) (fun i hi => hall2 i (by omega)) (by
      by_cases e : j + 1 + 1 = n
      · exact .inl e
      · right; have := ck_asc h (i := j + 1) (by omega); omega), s2, f2, s1]
    omega
  · rw [posV_of (k := j + 1) (by omega) (fun i hi => hall i (by omega)) (by
      by_cases e : j + 1 = n
      · exact .inl e
      · right; have := h2 (by omega); omega), s1]
theorem kk_ex (l : List Int) (t : Int) : ∀ n, ∃ k, k ≤ n ∧ (∀ i, i < k → l.getD (i * 3) 0 ≤ t) ∧ (k = n ∨ t < l.getD (k * 3) 0)
  | 0 => ⟨0, Nat.le_refl _, fun i hi => by omega, .inl rfl⟩
  | n + 1 => by
    obtain ⟨k, h1, h2, h3⟩ := kk_ex l t n
    rcases h3 with rfl | h3
    · by_cases h4 : l.getD (k * 3) 0 ≤ t
      · exact ⟨k + 1, Nat.le_refl _, fun i hi => by
          by_cases e : i = k
          · subst e; exact h4
          · exact h2 i (by omega), .inl rfl⟩
      · exact ⟨k, by omega, h2, .inr (by omega)⟩
    · exact ⟨k, by omega, h2, .inr h3⟩
theorem seg_ex {l : List Int} {n : Nat} {t : Int} (h : ckB l n = true) (ht : 0 ≤ t ∧ t ≤ 1099511627776) : ∃ j, j < n ∧ l.getD (j * 3) 0 ≤ t ∧ (j + 1 < n → t < l.getD ((j + 1) * 3) 0) := by
  obtain ⟨k, h1, h2, h3⟩ := kk_ex l t n
  have h4 := (ck_of h).1.1
  have h5 := ck_zero h
  cases k with
  | zero => exfalso; rcases h3 with h3 | h3 <;> omega
  | succ k => exact ⟨k, by omega, h2 k (by omega), fun hk => by rcases h3 with h3 | h3; omega; exact h3⟩
theorem ps_le {l : List Int} {n : Nat} (h : ckB l n = true) {i : Nat} : ∀ j, i ≤ j → j ≤ n → psV l n 1099511627776 i ≤ psV l n 1099511627776 j
  | 0, hij, _ => by obtain rfl : i = 0 := by omega
                    exact Int.le_refl _
  | j + 1, hij, hj => by
    by_cases e : i = j + 1
    · subst e; exact Int.le_refl _
    · have h1 := ps_le h (i := i) j (by omega) (by omega)
      have h2 := ps_step h (t := 1099511627776) (by omega) j (by omega) (fun i hi => (ck_rg h i (by omega)).2)
      omega
theorem ps_up {l : List Int} {n : Nat} (h : ckB l n = true) {j : Nat} (hj : j < n) : psV l n 1099511627776 (j + 1) = psV l n 1099511627776 j + (toV l n 1099511627776 j - l.getD (j * 3) 0) * l.getD (j * 3 + 1) 0 / l.getD (j * 3 + 2) 0 := by
  have h2 := ps_step h (t := 1099511627776) (by omega) j hj (fun i hi => (ck_rg h i (by omega)).2)
  rw [h2.1, (fl_is h (by omega) hj (ck_rg h j hj).2).1]
/-- a clock never goes backwards -/
theorem pos_mono {l : List Int} {n : Nat} {s t : Int} (h : ckB l n = true) (hs : 0 ≤ s) (hst : s ≤ t) (ht : t ≤ 1099511627776) : posV l n s ≤ posV l n t := by
  obtain ⟨i, a1, a2, a3⟩ := seg_ex h (t := s) (by omega)
  obtain ⟨j, b1, b2, b3⟩ := seg_ex h (t := t) (by omega)
  rw [pos_at h (by omega) a1 a2 (fun hh => Int.le_of_lt (a3 hh)), pos_at h (by omega) b1 b2 (fun hh => Int.le_of_lt (b3 hh))]
  obtain ⟨c1, _, _, c4⟩ := ck_seg h a1
  obtain ⟨d1, _, _, d4⟩ := ck_seg h b1
  by_cases e : i = j
  · subst e
    have := fr_mono (d := s - l.getD (i * 3) 0) (e := t - l.getD (i * 3) 0) (by omega) c1.1 c1.2.2.1
    omega
  · have hij : i < j := by
      by_cases e2 : i < j
      · exact e2
      · exfalso
        have := ck_mono h i (i := j + 1) (by omega) a1
        have := b3 (by omega)
        omega
    have u := ps_up h a1
    have t1 : toV l n 1099511627776 i = l.getD ((i + 1) * 3) 0 := by unfold toV; rw [if_pos (by omega)]; have := (ck_rg h (i + 1) (by omega)).2; omega
    have v := fr_mono (d := s - l.getD (i * 3) 0) (e := toV l n 1099511627776 i - l.getD (i * 3) 0) (by have := a3 (by omega); omega) c1.1 c1.2.2.1
    have w := ps_le h (i := i + 1) j hij (by omega)
    have x := (fr_in (d := t - l.getD (j * 3) 0) (by omega) d1.1 d1.2.2.1 d4).1
    omega
theorem pos_in2 {l : List Int} {n : Nat} {t : Int} (h : ckB l n = true) (ht : 0 ≤ t ∧ t ≤ 1099511627776) : 0 ≤ posV l n t ∧ posV l n t ≤ 1125899906842624 := by
  obtain ⟨j, b1, b2, b3⟩ := seg_ex h ht
  rw [pos_at h ht b1 b2 (fun hh => Int.le_of_lt (b3 hh))]
  obtain ⟨d1, _, _, d4⟩ := ck_seg h b1
  have h2 := ps_step h (t := 1099511627776) (by omega) j b1 (fun i hi => (ck_rg h i (by omega)).2)
  have x := fr_in (d := t - l.getD (j * 3) 0) (by omega) d1.1 d1.2.2.1 d4
  omega
theorem pos_end {l : List Int} {n : Nat} (h : ckB l n = true) : posV l n 1099511627776 = psV l n 1099511627776 n :=
  posV_of (Nat.le_refl _) (fun j hj => (ck_rg h j hj).2) (.inl rfl)
/-- the least wait -/
theorem ce_iff {g N W s : Int} (hN : 1 ≤ N) (hW : 1 ≤ W) : g ≤ s * N / W ↔ 0 - ((0 - g) * W) / N ≤ s := by
  rw [Int.le_ediv_iff_mul_le (by omega)]
  have h1 : (0 - s ≤ ((0 - g) * W) / N) ↔ (0 - s) * N ≤ (0 - g) * W := Int.le_ediv_iff_mul_le (by omega)
  have h2 : (0 - s) * N = 0 - s * N := by rw [Int.sub_mul, Int.zero_mul]
  have h3 : (0 - g) * W = 0 - g * W := by rw [Int.sub_mul, Int.zero_mul]
  rw [h2, h3] at h1
  rw [h3]
  constructor
  · intro h; have := h1.2 (by omega); omega
  · intro h; have := h1.1 (by omega); omega
theorem tm_ex (l : List Int) (n : Nat) (f : Int) : ∀ m, ∃ k, k ≤ m ∧ (∀ i, i < k → ¬ f ≤ psV l n 1099511627776 (i + 1)) ∧ (k = m ∨ f ≤ psV l n 1099511627776 (k + 1))
  | 0 => ⟨0, Nat.le_refl _, fun i hi => by omega, .inl rfl⟩
  | m + 1 => by
    obtain ⟨k, h1, h2, h3⟩ := tm_ex l n f m
    rcases h3 with rfl | h3
    · by_cases h4 : f ≤ psV l n 1099511627776 (k + 1)
      · exact ⟨k, by omega, h2, .inr h4⟩
      · exact ⟨k + 1, Nat.le_refl _, fun i hi => by
          by_cases e : i = k
          · subst e; exact h4
          · exact h2 i (by omega), .inl rfl⟩
    · exact ⟨k, by omega, h2, .inr h3⟩
/-- the time of a frame is the first at which it is there -/
theorem tm_iff {l : List Int} {n : Nat} {f : Int} (h : ckB l n = true) (hf : 0 ≤ f) :
    (tmV l n f = 0 ∧ tmE l n f = 13 ∧ posV l n 1099511627776 < f) ∨
    (tmE l n f = 0 ∧ 0 ≤ tmV l n f ∧ tmV l n f ≤ 1099511627776 ∧ ∀ t, 0 ≤ t → t ≤ 1099511627776 → (f ≤ posV l n t ↔ tmV l n f ≤ t)) := by
  obtain ⟨j, k1, k2, k3⟩ := tm_ex l n f n
  by_cases hjn : j = n
  · subst hjn
    have e : tmI l j f j 0 = j := tmI_of j 0 (Nat.zero_le _) k2 (.inl (by omega))
    left
    refine ⟨by unfold tmV; rw [e, if_neg (fun h => Nat.lt_irrefl _ h.2.2)], by unfold tmE; rw [e, if_pos h, if_pos hf, if_neg (Nat.lt_irrefl _)], ?_⟩
    have h64 := (ck_of h).1.1
    have := k2 (j - 1) (by omega)
    rw [show j - 1 + 1 = j by omega] at this
    rw [pos_end h]; omega
  · have hj : j < n := by omega
    have k4 : f ≤ psV l n 1099511627776 (j + 1) := k3.resolve_left hjn
    have e : tmI l n f n 0 = j := tmI_of n 0 (Nat.zero_le _) k2 (.inr ⟨by omega, k4⟩)
    right
    have eE : tmE l n f = 0 := by unfold tmE; rw [e, if_pos h, if_pos hf, if_pos hj]
    have eV : tmV l n f = tmW l n f j := by unfold tmV; rw [e, if_pos ⟨h, hf, hj⟩]
    have hall : ∀ i, i ≤ j → l.getD (i * 3) 0 ≤ 1099511627776 := fun i hi => (ck_rg h i (by omega)).2
    obtain ⟨s1, s2, s3, s4, s5⟩ := ps_step h (t := 1099511627776) (by omega) j hj hall
    have hF := ck_rg h j hj
    obtain ⟨g1, g2, g3, g4⟩ := ck_seg h hj
    have u := ps_up h hj
    have to1 := (to_in (l := l) (n := n) (t := 1099511627776) (i := j))
    have to2 := to_ge h (n := n) hF.2
    generalize hg : f - psV l n 1099511627776 j = g at *
    have hg0 : 0 ≤ g ∧ (0 < j → 0 < g) := by
      by_cases hj0 : j = 0
      · subst hj0
        have : psV l n 1099511627776 0 = 0 := rfl
        omega
      · have := k2 (j - 1) (by omega)
        rw [show j - 1 + 1 = j by omega] at this
        omega
    have hgt : g ≤ (toV l n 1099511627776 j - l.getD (j * 3) 0) * l.getD (j * 3 + 1) 0 / l.getD (j * 3 + 2) 0 := by omega
    have cw := (ce_iff (g := g) (s := toV l n 1099511627776 j - l.getD (j * 3) 0) g1.1 g1.2.2.1).1 hgt
    have cz : 0 ≤ 0 - ((0 - g) * l.getD (j * 3 + 2) 0) / l.getD (j * 3 + 1) 0 := by
      by_cases h0 : 0 ≤ 0 - ((0 - g) * l.getD (j * 3 + 2) 0) / l.getD (j * 3 + 1) 0
      · exact h0
      · exfalso
        have := (ce_iff (g := g) (s := -1) g1.1 g1.2.2.1).2 (by omega)
        have h9 : (-1 : Int) * l.getD (j * 3 + 1) 0 / l.getD (j * 3 + 2) 0 < 0 := Int.ediv_neg_of_neg_of_pos (by omega) (by omega)
        omega
    have hW : tmW l n f j = l.getD (j * 3) 0 + (0 - ((0 - g) * l.getD (j * 3 + 2) 0) / l.getD (j * 3 + 1) 0) := by
      unfold tmW ceV ivN ivW
      rw [if_pos g2, if_pos g2, hg, wr64 (show -9223372036854775808 ≤ g ∧ g ≤ 9223372036854775807 by omega)]
      have hok : ratOk (l.getD (j * 3 + 2) 0) (l.getD (j * 3 + 1) 0) = true := ratOk_swap g2
      rw [(vR_in hok (n := g) (q := ((0 - g) * l.getD (j * 3 + 2) 0) / l.getD (j * 3 + 1) 0) (by omega) (by omega)).1]
      exact wr64 (by omega)
    rw [eE, eV, hW]
    generalize hw : 0 - ((0 - g) * l.getD (j * 3 + 2) 0) / l.getD (j * 3 + 1) 0 = w at *
    refine ⟨rfl, by omega, by omega, fun t ht0 ht1 => ?_⟩
    have hT : posV l n (l.getD (j * 3) 0 + w) = psV l n 1099511627776 j + (l.getD (j * 3) 0 + w - l.getD (j * 3) 0) * l.getD (j * 3 + 1) 0 / l.getD (j * 3 + 2) 0 := pos_at h (by omega) hj (by omega) (fun hh => by have := to1.2 hh; omega)
    have hTw : g ≤ w * l.getD (j * 3 + 1) 0 / l.getD (j * 3 + 2) 0 := (ce_iff (g := g) (s := w) g1.1 g1.2.2.1).2 (by omega)
    rw [show l.getD (j * 3) 0 + w - l.getD (j * 3) 0 = w by omega] at hT
    constructor
    · intro hft
      by_cases hlt : l.getD (j * 3) 0 + w ≤ t
      · exact hlt
      · exfalso
        by_cases hfj : l.getD (j * 3) 0 ≤ t
        · have p := pos_at h ⟨ht0, ht1⟩ hj hfj (fun hh => by have := to1.2 hh; omega)
          have := (ce_iff (g := g) (s := t - l.getD (j * 3) 0) g1.1 g1.2.2.1).1 (by omega)
          omega
        · have hj0 : 0 < j := by
            by_cases e0 : j = 0
            · subst e0; have := ck_zero h; omega
            · omega
          have p := pos_at h (t := l.getD (j * 3) 0) ⟨hF.1, hF.2⟩ hj (Int.le_refl _) (fun hh => Int.le_of_lt (ck_asc h hh))
          rw [Int.sub_self, Int.zero_mul, Int.zero_ediv] at p
          have := pos_mono h ht0 (by omega : t ≤ l.getD (j * 3) 0) hF.2
          have := hg0.2 hj0
          omega
    · intro hft
      have := pos_mono h (by omega : 0 ≤ l.getD (j * 3) 0 + w) hft ht1
      omega
end Go.Proofs.Yteggelophhpnfaa
