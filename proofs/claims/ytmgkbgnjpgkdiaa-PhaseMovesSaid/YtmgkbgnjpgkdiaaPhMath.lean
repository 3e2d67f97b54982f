/- Phases: the mathematics. No statement is proved here. -/
import Derived.Test.YtmgkbgnjpgkdiaaPhRat
namespace Go.Proofs.Ytmgkbgnjpgkdiaa
set_option linter.unusedVariables false
set_option linter.unusedSimpArgs false

/-- how many parts after the whole position the output frame i is -/
def mv (n a f i : Int) : Int := f + i * (n * (65536 + a))
theorem step_bd {n a : Int} (h1 : 1 ≤ n) (h2 : n ≤ 768000) (h3 : -4096 ≤ a) (h4 : a ≤ 4096) : 61440 ≤ n * (65536 + a) ∧ n * (65536 + a) ≤ 53477376000 := by
  have e1 : 1 * 61440 ≤ n * (65536 + a) := Int.mul_le_mul h1 (by omega) (by omega) (by omega)
  have e2 : n * (65536 + a) ≤ 768000 * 69632 := Int.mul_le_mul h2 (by omega) (by omega) (by omega)
  omega
theorem mv_bd {n a f d i : Int} (hn : 1 ≤ n ∧ n ≤ 768000) (ha : -4096 ≤ a ∧ a ≤ 4096) (hd : 1 ≤ d ∧ d ≤ 768000) (hf : 0 ≤ f ∧ f < d * 65536) (hi : 0 ≤ i) (hi2 : i ≤ 65536) :
    0 ≤ i * (n * (65536 + a)) ∧ i * (n * (65536 + a)) ≤ 3504693313536000 ∧ 0 ≤ mv n a f i ∧ mv n a f i ≤ 3504743645184000 ∧ 0 ≤ mv n a f i / (d * 65536) ∧ mv n a f i / (d * 65536) ≤ 3504743645184000 ∧ 0 ≤ mv n a f i % (d * 65536) ∧ mv n a f i % (d * 65536) < d * 65536 := by
  obtain ⟨s1, s2⟩ := step_bd hn.1 hn.2 ha.1 ha.2
  unfold mv
  generalize n * (65536 + a) = S at *
  have e1 : 0 ≤ i * S := Int.mul_nonneg hi (by omega)
  have e2 : i * S ≤ 65536 * 53477376000 := Int.mul_le_mul hi2 s2 (by omega) (by omega)
  have e3 : 0 ≤ f + i * S := by omega
  have e5 : (f + i * S) / (d * 65536) ≤ f + i * S := Int.ediv_le_self _ e3
  refine ⟨e1, by omega, e3, by omega, Int.ediv_nonneg e3 (by omega), by omega, Int.emod_nonneg _ (by omega), Int.emod_lt_of_pos _ (by omega)⟩
theorem mv_tdiv {n a f d i : Int} (h : 0 ≤ mv n a f i) : (mv n a f i).tdiv (d * 65536) = mv n a f i / (d * 65536) ∧ (mv n a f i).tmod (d * 65536) = mv n a f i % (d * 65536) :=
  ⟨Int.tdiv_eq_ediv_of_nonneg h, Int.tmod_eq_emod_of_nonneg h⟩
/-- how many input frames n output frames need -/
def nd (n d a f k : Int) : Int := if k = 0 then 0 else max (mv n a f (k - 1) / (d * 65536) + 2) (mv n a f k / (d * 65536))
theorem mv_mono {n a f i j : Int} (hs : 0 ≤ n * (65536 + a)) (hij : i ≤ j) : mv n a f i ≤ mv n a f j := by
  unfold mv
  have := Int.mul_le_mul_of_nonneg_right hij hs
  omega
theorem nd_nonneg {n d a f k : Int} (hs : 0 ≤ n * (65536 + a)) (hd : 1 ≤ d) (hf : 0 ≤ f) (hk : 0 ≤ k) : 0 ≤ nd n d a f k := by
  unfold nd
  split
  · omega
  · have h0 : 0 ≤ mv n a f (k - 1) := by have := Int.mul_nonneg (show 0 ≤ k - 1 by omega) hs; unfold mv; omega
    have := Int.ediv_nonneg h0 (show 0 ≤ d * 65536 by omega)
    omega
theorem nd_mono {n d a f i j : Int} (hs : 0 ≤ n * (65536 + a)) (hd : 1 ≤ d) (hf : 0 ≤ f) (hi : 0 ≤ i) (hij : i ≤ j) : nd n d a f i ≤ nd n d a f j := by
  by_cases h0 : i = 0
  · subst h0
    have := nd_nonneg (n := n) (d := d) (a := a) (f := f) (k := j) hs hd hf (by omega)
    unfold nd at this ⊢
    simpa using this
  · unfold nd
    rw [if_neg h0, if_neg (by omega)]
    have h1 := Int.ediv_le_ediv (show 0 < d * 65536 by omega) (mv_mono (n := n) (a := a) (f := f) hs (show i - 1 ≤ j - 1 by omega))
    have h2 := Int.ediv_le_ediv (show 0 < d * 65536 by omega) (mv_mono (n := n) (a := a) (f := f) hs hij)
    omega
theorem count_char (p : Nat → Bool) : ∀ N, (∀ a b, a ≤ b → b < N → p a = true → p b = true) → ∀ k, k < N → (p k = false ↔ k < (List.range N).countP (fun i => !p i)) := by
  intro N
  induction N with
  | zero => intro _ k hk; omega
  | succ N ih =>
    intro hm k hk
    have ih' := ih (fun a b hab hb h => hm a b hab (by omega) h)
    rw [List.range_succ, List.countP_append]
    have hle : (List.range N).countP (fun i => !p i) ≤ N := by have := List.countP_le_length (p := fun i => !p i) (l := List.range N); simpa using this
    cases hN : p N
    · have hall : ∀ j, j < N → p j = false := fun j hj => by
        cases h : p j
        · rfl
        · have := hm j N (by omega) (by omega) h; rw [hN] at this; cases this
      have hk' : p k = false := by
        by_cases h : k = N
        · rw [h]; exact hN
        · exact hall k (by omega)
      have hc : (List.range N).countP (fun i => !p i) = N := by
        by_cases h0 : N = 0
        · subst h0; rfl
        · have := (ih' (N - 1) (by omega)).1 (hall _ (by omega)); omega
      rw [hc]
      simp [hN, hk']
      omega
    · by_cases h : k = N
      · subst h
        simp [hN]
        omega
      · simp only [List.countP_singleton, hN]
        exact ih' k (by omega)
/-- how many output frames can be made of m input frames -/
def mkN (n d a f m : Int) : Nat := (List.range 65536).countP (fun i : Nat => !decide (m < nd n d a f ((i : Int) + 1)))
theorem countP_range_le (p : Nat → Bool) (N : Nat) : (List.range N).countP p ≤ N := by
  have := List.countP_le_length (p := p) (l := List.range N)
  rwa [List.length_range] at this
theorem mkN_le (n d a f m : Int) : mkN n d a f m ≤ 65536 := countP_range_le _ _
theorem mkN_char {n d a f m : Int} (hs : 0 ≤ n * (65536 + a)) (hd : 1 ≤ d) (hf : 0 ≤ f) (hm : 0 ≤ m) (k : Int) (hk : 0 ≤ k) (hk2 : k ≤ 65536) : nd n d a f k ≤ m ↔ k ≤ mkN n d a f m := by
  by_cases h0 : k = 0
  · subst h0
    constructor
    · intro _; omega
    · intro _; unfold nd; simpa using hm
  · have h := count_char (fun i : Nat => decide (m < nd n d a f ((i : Int) + 1))) 65536 (fun x y hxy hy hx => by
      have := nd_mono (n := n) (d := d) (a := a) (f := f) hs hd hf (show (0 : Int) ≤ (x : Int) + 1 by omega) (show (x : Int) + 1 ≤ (y : Int) + 1 by omega)
      simp only [decide_eq_true_eq] at hx ⊢
      omega) (k - 1).toNat (by omega)
    rw [show (((k - 1).toNat : Nat) : Int) + 1 = k by omega] at h
    have hM : (List.range 65536).countP (fun i : Nat => !decide (m < nd n d a f ((i : Int) + 1))) = mkN n d a f m := rfl
    rw [hM] at h
    clear hM
    simp only [decide_eq_false_iff_not] at h
    constructor
    · intro hle
      have := h.1 (by omega)
      omega
    · intro hle
      have := h.2 (by omega)
      omega
theorem mkN_mono {n d a b f m l : Int} (hs : 0 ≤ n * (65536 + a)) (hs2 : n * (65536 + a) ≤ n * (65536 + b)) (hd : 1 ≤ d) (hf : 0 ≤ f) (hm : 0 ≤ m) : mkN n d b f m ≤ mkN n d a f m := by
  have hb : 0 ≤ n * (65536 + b) := by omega
  have hc := mkN_le n d b f m
  have h1 := (mkN_char (n := n) (d := d) (a := b) (f := f) (m := m) hb hd hf hm (mkN n d b f m) (by omega) (by omega)).2 (by omega)
  have h2 : nd n d a f (mkN n d b f m) ≤ nd n d b f (mkN n d b f m) := by
    generalize mkN n d b f m = k at *
    unfold nd
    by_cases h0 : (k : Int) = 0
    · rw [if_pos h0, if_pos h0]; omega
    · rw [if_neg h0, if_neg h0]
      have e1 : mv n a f ((k : Int) - 1) ≤ mv n b f ((k : Int) - 1) := by unfold mv; have := Int.mul_le_mul_of_nonneg_left hs2 (show 0 ≤ (k : Int) - 1 by omega); omega
      have e2 : mv n a f (k : Int) ≤ mv n b f (k : Int) := by unfold mv; have := Int.mul_le_mul_of_nonneg_left hs2 (show 0 ≤ (k : Int) by omega); omega
      have e3 := Int.ediv_le_ediv (show 0 < d * 65536 by omega) e1
      have e4 := Int.ediv_le_ediv (show 0 < d * 65536 by omega) e2
      omega
  have := (mkN_char (n := n) (d := d) (a := a) (f := f) (m := m) hs hd hf hm (mkN n d b f m) (by omega) (by omega)).1 (by omega)
  omega
theorem nd_step {n d a b f k : Int} (hs2 : n * (65536 + a) ≤ n * (65536 + b)) (hd : 1 ≤ d) (hk : 0 ≤ k) : nd n d a f k ≤ nd n d b f k := by
  unfold nd
  by_cases h0 : k = 0
  · rw [if_pos h0, if_pos h0]; omega
  · rw [if_neg h0, if_neg h0]
    have e1 : mv n a f (k - 1) ≤ mv n b f (k - 1) := by unfold mv; have := Int.mul_le_mul_of_nonneg_left hs2 (show 0 ≤ k - 1 by omega); omega
    have e2 : mv n a f k ≤ mv n b f k := by unfold mv; have := Int.mul_le_mul_of_nonneg_left hs2 (show 0 ≤ k by omega); omega
    have e3 := Int.ediv_le_ediv (show 0 < d * 65536 by omega) e1
    have e4 := Int.ediv_le_ediv (show 0 < d * 65536 by omega) e2
    omega
/-- what a valid phase is -/
def PhP (n d a p f : Int) : Prop := (1 ≤ n ∧ n ≤ 768000) ∧ (1 ≤ d ∧ d ≤ 768000) ∧ (-4096 ≤ a ∧ a ≤ 4096) ∧ (0 ≤ p ∧ p ≤ 1125899906842624) ∧ 0 ≤ f ∧ f < d * 65536
theorem two_steps {n d a f i j : Int} (hd : 1 ≤ d) : mv n a (mv n a f i % (d * 65536)) j % (d * 65536) = mv n a f (i + j) % (d * 65536) ∧ mv n a f i / (d * 65536) + mv n a (mv n a f i % (d * 65536)) j / (d * 65536) = mv n a f (i + j) / (d * 65536) := by
  have e : mv n a f (i + j) = mv n a (mv n a f i % (d * 65536)) j + (mv n a f i / (d * 65536)) * (d * 65536) := by
    have h := Int.mul_ediv_add_emod (mv n a f i) (d * 65536)
    have h2 : mv n a f (i + j) = mv n a f i + j * (n * (65536 + a)) := by unfold mv; rw [Int.add_mul]; omega
    have h3 : mv n a (mv n a f i % (d * 65536)) j = mv n a f i % (d * 65536) + j * (n * (65536 + a)) := rfl
    rw [h2, h3]
    rw [Int.mul_comm (d * 65536)] at h
    omega
  rw [e]
  refine ⟨(Int.add_mul_emod_self_right ..).symm, ?_⟩
  rw [Int.add_mul_ediv_right _ _ (by omega)]
  omega
theorem whole {n d f : Int} (hd : 1 ≤ d) (hf : 0 ≤ f) (hf2 : f < d * 65536) : mv n 0 f d / (d * 65536) = n ∧ mv n 0 f d % (d * 65536) = f := by
  have e : mv n 0 f d = f + n * (d * 65536) := by
    unfold mv
    rw [show (65536 : Int) + 0 = 65536 by omega, ← Int.mul_assoc, ← Int.mul_assoc, Int.mul_comm d n]
  rw [e, Int.add_mul_ediv_right _ _ (by omega), Int.add_mul_emod_self_right, Int.ediv_eq_zero_of_lt hf hf2, Int.emod_eq_of_lt hf hf2]
  omega
end Go.Proofs.Ytmgkbgnjpgkdiaa
