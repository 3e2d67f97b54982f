/- What limiters do, as a calculation. No statement is proved here. -/
import Derived.Test.YtbcifmddbhnkhaaLimMod
namespace Go.Proofs.Ytbcifmddbhnkhaa
open Go.ChangeShapes Go.WideShapes Go.ChangeAt Go.RowKit
set_option linter.unusedVariables false
set_option linter.unusedSimpArgs false

theorem getD_append_l {a b : List Int} {i : Nat} (h : i < a.length) : (a ++ b).getD i 0 = a.getD i 0 := by
  simp [List.getD_eq_getElem?_getD, List.getElem?_append_left h]
theorem getD_append_r {a b : List Int} {i : Nat} (h : a.length ≤ i) : (a ++ b).getD i 0 = b.getD (i - a.length) 0 := by
  simp [List.getD_eq_getElem?_getD, List.getElem?_append_right h]
theorem getD_take {l : List Int} {c i : Nat} (h : i < c) : (l.take c).getD i 0 = l.getD i 0 := by
  simp [List.getD_eq_getElem?_getD, List.getElem?_take, h]
theorem getD_drop {l : List Int} {c i : Nat} : (l.drop c).getD i 0 = l.getD (c + i) 0 := by
  simp [List.getD_eq_getElem?_getD]
theorem getD_map_out {l : List Int} {N : Int} {i : Nat} (h : i < l.length) : (l.map (outL N)).getD i 0 = outL N (l.getD i 0) := by
  simp [List.getD_eq_getElem?_getD, h]
theorem getD_mem' {l : List Int} {i : Nat} (h : i < l.length) : l.getD i 0 ∈ l := by
  rw [List.getD_eq_getElem?_getD, List.getElem?_eq_getElem h]; exact List.getElem_mem _
theorem div_bd {s N t : Int} (hs : 0 ≤ s) (hN : 0 ≤ N) (hN1 : N ≤ 65536) (ht : s * N ≤ t * 65536) : 0 ≤ s * N / 65536 ∧ s * N / 65536 ≤ t ∧ s * N / 65536 ≤ s := by
  have h0 := Int.mul_nonneg hs hN
  have h1 := Int.mul_le_mul_of_nonneg_left hN1 hs
  omega
theorem outL_pos {s N t : Int} (hs : 0 ≤ s) (hN : 0 ≤ N) (hN1 : N ≤ 65536) (ht : s * N ≤ t * 65536) (ht2 : t ≤ 8388607) : outL N s = s * N / 65536 := by
  have h := div_bd hs hN hN1 ht
  unfold outL
  rw [Int.tdiv_eq_ediv_of_nonneg (Int.mul_nonneg hs hN)]
  exact satI_in (by omega) (by omega)
theorem outL_neg {s N t : Int} (hs : s ≤ 0) (hN : 0 ≤ N) (hN1 : N ≤ 65536) (ht : -s * N ≤ t * 65536) (ht2 : t ≤ 8388607) : outL N s = -(-s * N / 65536) := by
  have h := div_bd (s := -s) (by omega) hN hN1 ht
  unfold outL
  rw [show s * N = -(-s * N) by rw [Int.neg_mul, Int.neg_neg], Int.neg_tdiv, Int.tdiv_eq_ediv_of_nonneg (Int.mul_nonneg (by omega) hN)]
  exact satI_in (by omega) (by omega)
/-- no output is above the threshold, no sign changes, nothing becomes louder -/
theorem outL_holds {s N t : Int} (hN : 0 ≤ N) (hN1 : N ≤ 65536) (h1 : s * N ≤ t * 65536) (h2 : -s * N ≤ t * 65536) (ht2 : t ≤ 8388607) : -t ≤ outL N s ∧ outL N s ≤ t ∧ (0 < outL N s → outL N s ≤ s) ∧ (outL N s < 0 → s ≤ outL N s) := by
  rcases Int.le_total 0 s with hs | hs
  · rw [outL_pos hs hN hN1 h1 ht2]
    have h := div_bd hs hN hN1 h1
    omega
  · rw [outL_neg hs hN hN1 h2 ht2]
    have h := div_bd (s := -s) (by omega) hN hN1 h2
    omega
theorem outL_mono {s N N' t t' : Int} (hN : 0 ≤ N) (hNN : N ≤ N') (hN1 : N' ≤ 65536) (h1 : s * N' ≤ t' * 65536) (h2 : -s * N' ≤ t' * 65536) (h3 : s * N ≤ t * 65536) (h4 : -s * N ≤ t * 65536) (ht2 : t' ≤ 8388607) (ht : t ≤ 8388607) : (0 ≤ s → outL N s ≤ outL N' s) ∧ (s ≤ 0 → outL N' s ≤ outL N s) := by
  refine ⟨fun hs => ?_, fun hs => ?_⟩
  · rw [outL_pos hs hN (by omega) h3 ht, outL_pos hs (by omega) hN1 h1 ht2]
    exact Int.ediv_le_ediv (by omega) (Int.mul_le_mul_of_nonneg_left hNN hs)
  · rw [outL_neg hs hN (by omega) h4 ht, outL_neg hs (by omega) hN1 h2 ht2]
    have := Int.ediv_le_ediv (c := 65536) (by omega) (Int.mul_le_mul_of_nonneg_left hNN (show 0 ≤ -s by omega))
    omega
theorem frame_gain {t r g : Int} (ht : 1 ≤ t ∧ t ≤ 8388607) (hr : 1 ≤ r ∧ r ≤ 65536) (hg : 0 ≤ g ∧ g ≤ 65536) (F : List Int) (hb : ∀ s ∈ F, -1099511627776 ≤ s ∧ s ≤ 1099511627776) {s : Int} (hs : s ∈ F) :
    0 ≤ nxL t r g F ∧ nxL t r g F ≤ 65536 ∧ s * nxL t r g F ≤ t * 65536 ∧ -s * nxL t r g F ≤ t * 65536 := by
  obtain ⟨h0, h1, h2⟩ := nxL_bd ht hr hg F hb
  obtain ⟨p1, p2, _⟩ := peakF_ge F 0 (Int.le_refl _) s hs
  refine ⟨h0, h1, Int.le_trans (Int.mul_le_mul_of_nonneg_right p1 h0) (by rw [Int.mul_comm]; exact h2), Int.le_trans (Int.mul_le_mul_of_nonneg_right p2 h0) (by rw [Int.mul_comm]; exact h2)⟩
theorem runL_at (c : Nat) {t r : Int} (ht : 1 ≤ t ∧ t ≤ 8388607) (hr : 1 ≤ r ∧ r ≤ 65536) : ∀ (n : Nat) (g : Int) (l : List Int), (0 ≤ g ∧ g ≤ 65536) → n * c ≤ l.length → (∀ s ∈ l, -1099511627776 ≤ s ∧ s ≤ 1099511627776) → ∀ i, i < n * c →
    ∃ N : Int, 0 ≤ N ∧ N ≤ 65536 ∧ l.getD i 0 * N ≤ t * 65536 ∧ -(l.getD i 0) * N ≤ t * 65536 ∧ (runL c t r n g l).1.getD i 0 = outL N (l.getD i 0) := by
  intro n
  induction n with
  | zero => intro g l _ _ _ i hi; omega
  | succ n ih =>
    intro g l hg hl hb i hi
    rw [Nat.add_mul] at hl hi
    have hlt : (l.take c).length = c := by rw [List.length_take]; omega
    have hfb : ∀ s ∈ l.take c, -1099511627776 ≤ s ∧ s ≤ 1099511627776 := fun s hs => hb s (List.mem_of_mem_take hs)
    by_cases hic : i < c
    · have hm : l.getD i 0 ∈ l.take c := by rw [← getD_take hic]; exact getD_mem' (by omega)
      obtain ⟨a1, a2, a3, a4⟩ := frame_gain ht hr hg _ hfb hm
      refine ⟨_, a1, a2, a3, a4, ?_⟩
      rw [runL, getD_append_l (by simp; omega), getD_map_out (by omega), getD_take hic]
    · have hn := nxL_bd ht hr hg _ hfb
      obtain ⟨N, b1, b2, b3, b4, b5⟩ := ih (nxL t r g (l.take c)) (l.drop c) ⟨hn.1, hn.2.1⟩ (by rw [List.length_drop]; omega) (fun s hs => hb s (List.mem_of_mem_drop hs)) (i - c) (by omega)
      rw [getD_drop, show c + (i - c) = i by omega] at b3 b4 b5
      refine ⟨N, b1, b2, b3, b4, ?_⟩
      rw [runL, getD_append_r (by simp; omega), List.length_map, hlt]
      exact b5
theorem needL_mono {t t' p : Int} (ht : 1 ≤ t) (htt : t ≤ t') (ht' : t' ≤ 8388607) (h0 : 0 ≤ p) (h1 : p ≤ 1099511627776) : needL t p ≤ needL t' p := by
  have e := needL_bd (t := t) ⟨ht, by omega⟩ h0 h1
  rw [needL_in ⟨by omega, ht'⟩ h0 h1]
  split
  · exact e.2.1
  · rename_i h
    rw [needL_in ⟨ht, by omega⟩ h0 h1, if_neg (by omega)]
    exact Int.ediv_le_ediv (by omega) (by omega)
theorem nxL_mono {t t' r r' g g' : Int} (ht : 1 ≤ t) (htt : t ≤ t') (ht' : t' ≤ 8388607) (hrr : r ≤ r') (hgg : g ≤ g') (F : List Int) (hb : ∀ s ∈ F, -1099511627776 ≤ s ∧ s ≤ 1099511627776) : nxL t r g F ≤ nxL t' r' g' F := by
  obtain ⟨p0, p1, _⟩ := peakF_bd F 0 (Int.le_refl _) (by omega) hb
  have := needL_mono ht htt ht' p0 p1
  unfold nxL
  omega
theorem runL_mono (c : Nat) {t t' r r' : Int} (ht : 1 ≤ t ∧ t ≤ 8388607) (htt : t ≤ t') (ht' : t' ≤ 8388607) (hr : 1 ≤ r ∧ r ≤ 65536) (hrr : r ≤ r') (hr' : r' ≤ 65536) : ∀ (n : Nat) (g g' : Int) (l : List Int), (0 ≤ g ∧ g ≤ 65536) → g ≤ g' → g' ≤ 65536 → n * c ≤ l.length → (∀ s ∈ l, -1099511627776 ≤ s ∧ s ≤ 1099511627776) → ∀ i, i < n * c →
    (0 ≤ l.getD i 0 → (runL c t r n g l).1.getD i 0 ≤ (runL c t' r' n g' l).1.getD i 0) ∧ (l.getD i 0 ≤ 0 → (runL c t' r' n g' l).1.getD i 0 ≤ (runL c t r n g l).1.getD i 0) := by
  intro n
  induction n with
  | zero => intro g g' l _ _ _ _ _ i hi; omega
  | succ n ih =>
    intro g g' l hg hgg hg' hl hb i hi
    rw [Nat.add_mul] at hl hi
    have hlt : (l.take c).length = c := by rw [List.length_take]; omega
    have hfb : ∀ s ∈ l.take c, -1099511627776 ≤ s ∧ s ≤ 1099511627776 := fun s hs => hb s (List.mem_of_mem_take hs)
    have hNN := nxL_mono (r := r) (r' := r') ht.1 htt ht' hrr hgg _ hfb
    have ht2 : 1 ≤ t' ∧ t' ≤ 8388607 := ⟨by omega, ht'⟩
    have hr2 : 1 ≤ r' ∧ r' ≤ 65536 := ⟨by omega, hr'⟩
    have hg2 : 0 ≤ g' ∧ g' ≤ 65536 := ⟨by omega, hg'⟩
    by_cases hic : i < c
    · have hm : l.getD i 0 ∈ l.take c := by rw [← getD_take hic]; exact getD_mem' (by omega)
      obtain ⟨a1, a2, a3, a4⟩ := frame_gain ht hr hg _ hfb hm
      obtain ⟨b1, b2, b3, b4⟩ := frame_gain ht2 hr2 hg2 _ hfb hm
      rw [runL, runL, getD_append_l (by simp; omega), getD_append_l (by simp; omega), getD_map_out (by omega), getD_map_out (by omega), getD_take hic]
      exact outL_mono a1 hNN b2 b3 b4 a3 a4 ht2.2 ht.2
    · have hn := nxL_bd ht hr hg _ hfb
      have hn2 := nxL_bd ht2 hr2 hg2 _ hfb
      have h := ih (nxL t r g (l.take c)) (nxL t' r' g' (l.take c)) (l.drop c) ⟨hn.1, hn.2.1⟩ hNN hn2.2.1 (by rw [List.length_drop]; omega) (fun s hs => hb s (List.mem_of_mem_drop hs)) (i - c) (by omega)
      rw [getD_drop, show c + (i - c) = i by omega] at h
      rw [runL, runL, getD_append_r (by simp; omega), getD_append_r (by simp; omega), List.length_map, List.length_map, hlt]
      exact h
/-- frames of one channel that do not exceed the threshold -/
theorem need_quiet {t p : Int} (ht : 1 ≤ t ∧ t ≤ 8388607) (h0 : 0 ≤ p) (h1 : p ≤ t) : needL t p = 65536 := by
  rw [needL_in ht h0 (by omega), if_pos h1]
theorem outL_one {s : Int} (h0 : -8388608 ≤ s) (h1 : s ≤ 8388607) : outL 65536 s = s := by
  unfold outL
  rw [Int.mul_tdiv_cancel _ (by omega)]
  exact satI_in h0 h1
theorem runL_quiet {t r : Int} (ht : 1 ≤ t ∧ t ≤ 8388607) (hr : 1 ≤ r ∧ r ≤ 65536) : ∀ (n : Nat) (l : List Int), l.length = n → (∀ s ∈ l, -t ≤ s ∧ s ≤ t) → runL 1 t r n 65536 l = (l, 65536) := by
  intro n
  induction n with
  | zero => intro l hl _; obtain rfl := List.eq_nil_of_length_eq_zero hl; rfl
  | succ n ih =>
    intro l hl hb
    cases l with
    | nil => cases hl
    | cons s l =>
      have hs := hb s (List.mem_cons_self ..)
      have hN : nxL t r 65536 [s] = 65536 := by
        unfold nxL
        rw [need_quiet ht (by simp [peakF]; omega) (by simp [peakF]; omega)]
        omega
      rw [runL]
      simp only [List.take_succ_cons, List.take_zero, List.drop_succ_cons, List.drop_zero, List.map_cons, List.map_nil, hN]
      rw [ih l (by simpa using hl) (fun x hx => hb x (List.mem_cons_of_mem _ hx)), outL_one (by omega) (by omega)]
      rfl
theorem runL_back {t r : Int} (ht : 1 ≤ t ∧ t ≤ 8388607) (hr : 1 ≤ r ∧ r ≤ 65536) : ∀ (n : Nat) (g : Int), (0 ≤ g ∧ g ≤ 65536) → (runL 1 t r n g (List.replicate n 0)).2 = min 65536 (g + n * r) := by
  intro n
  induction n with
  | zero => intro g hg; simp [runL]; omega
  | succ n ih =>
    intro g hg
    have hN : nxL t r g [0] = min 65536 (g + r) := by
      unfold nxL
      rw [need_quiet ht (by simp [peakF]) (by simp [peakF]; omega)]
    rw [runL, List.replicate_succ]
    simp only [List.take_succ_cons, List.take_zero, List.drop_succ_cons, List.drop_zero, hN]
    rw [ih _ (by omega)]
    have e : ((n + 1 : Nat) : Int) * r = n * r + r := by rw [Int.natCast_add, Int.add_mul]; simp
    rw [e]
    have h0 : 0 ≤ (n : Int) * r := Int.mul_nonneg (by omega) (by omega)
    generalize (n : Int) * r = X at *
    omega
end Go.Proofs.Ytbcifmddbhnkhaa
