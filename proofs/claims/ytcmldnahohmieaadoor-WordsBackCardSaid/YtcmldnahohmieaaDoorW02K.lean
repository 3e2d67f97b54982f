/- Numbers come back. No statement is proved here. -/
import Derived.Test.YtcmldnahohmieaaDoorL02M
namespace Go.Proofs.YtcmldnahohmieaaDoor
open Go.ChangeShapes Go.WideShapes Go.ChangeAt Go.RowKit
set_option linter.unusedVariables false
set_option linter.unusedSimpArgs false

theorem dc_ind (P : Nat → Prop) (h1 : ∀ u, u < 10 → P u) (h2 : ∀ u, ¬ u < 10 → P (u / 10) → P u) : ∀ u, P u := by
  intro u
  induction u using Nat.strongRecOn with
  | _ u ih =>
    by_cases h : u < 10
    · exact h1 u h
    · exact h2 u h (ih (u / 10) (by omega))
theorem vaL_dc : ∀ u, vaL (dcL u) = u := by
  refine dc_ind _ (fun u h => ?_) (fun u h ih => ?_)
  · rw [dcL_s h]
    show 0 * 10 + (((48 + u : Nat) : Int) - 48).toNat = u
    omega
  · rw [dcL_b h]
    unfold vaL at *
    rw [vaF_app, ih]
    show u / 10 * 10 + (((48 + u % 10 : Nat) : Int) - 48).toNat = u
    omega
theorem dg_dc : ∀ u, ∀ x ∈ dcL u, 48 ≤ x ∧ x ≤ 57 := by
  refine dc_ind _ (fun u h => ?_) (fun u h ih => ?_)
  · rw [dcL_s h]; intro x hx; simp at hx; omega
  · rw [dcL_b h]
    intro x hx
    rcases List.mem_append.1 hx with hx | hx
    · exact ih x hx
    · simp at hx; omega
theorem hd_dc : ∀ u, 1 ≤ (dcL u).length ∧ (1 ≤ u → ¬ List.getD (dcL u) 0 0 = 48) := by
  refine dc_ind _ (fun u h => ?_) (fun u h ih => ?_)
  · rw [dcL_s h]
    refine ⟨Nat.le_refl _, fun h2 h3 => ?_⟩
    have h3 : ((48 + u : Nat) : Int) = 48 := h3
    omega
  · rw [dcL_b h]
    refine ⟨by rw [List.length_append]; have := ih.1; omega, fun _ => ?_⟩
    rw [getD_app_l (by have := ih.1; omega)]
    exact ih.2 (by omega)
theorem dc_len : ∀ (n u : Nat), u < 10 ^ (n + 1) → (dcL u).length ≤ n + 1
  | 0, u, h => by rw [dcL_s (by simpa using h)]; exact Nat.le_refl _
  | n + 1, u, h => by
    by_cases h1 : u < 10
    · rw [dcL_s h1]; simp
    · rw [dcL_b h1, List.length_append]
      have := dc_len n (u / 10) (by rw [Nat.pow_succ] at h; omega)
      simp only [List.length_cons, List.length_nil]; omega
theorem it_len {n : Int} (h : -9223372036854775808 ≤ n ∧ n ≤ 9223372036854775807) : (itL n).length ≤ 21 := by
  by_cases h1 : n < 0
  · rw [itL_neg h1]
    have := dc_len 19 (0 - n).toNat (by have : (10 : Nat) ^ 20 = 100000000000000000000 := rfl; omega)
    simp only [List.length_cons]; omega
  · rw [itL_nn h1]
    have := dc_len 19 n.toNat (by have : (10 : Nat) ^ 20 = 100000000000000000000 := rfl; omega)
    omega
theorem dg_at (u j : Nat) (hj : j < (dcL u).length) : 48 ≤ List.getD (dcL u) j 0 ∧ List.getD (dcL u) j 0 ≤ 57 := by
  rw [List.getD_eq_getElem?_getD, List.getElem?_eq_getElem hj]
  exact dg_dc u _ (List.getElem_mem hj)
theorem nu_it {k : Int} (h : -9007199254740992 < k ∧ k < 9007199254740992) : nuE (itL k) = 0 ∧ nuV (itL k) = k := by
  by_cases h1 : k < 0
  · obtain ⟨u, hu⟩ : ∃ u : Nat, (0 - k).toNat = u := ⟨_, rfl⟩
    have e : itL k = 45 :: dcL u := by rw [itL_neg h1, hu]
    have hn : ngN (itL k) = 1 := by rw [e]; unfold ngN; rw [if_pos ⟨by simp, rfl⟩]
    have hd : dgL (itL k) = dcL u := by rw [dg_y hn, e]; rfl
    have h2 := hd_dc u
    have h3 := h2.2 (by omega)
    have hok : okD (dgL (itL k)) true = true := by
      rw [hd]
      exact ok_good (dg_at u) (fun e9 => h3 (by rw [e9]; rfl)) (by omega) h3
    have hv : vaL (dgL (itL k)) = u := by rw [hd, vaL_dc]
    have := nu_ok (b := true) (decide_eq_true hn).symm hok (by rw [hv]; omega)
    refine ⟨this.1, ?_⟩
    rw [this.2, if_pos hn, hv]; omega
  · obtain ⟨u, hu⟩ : ∃ u : Nat, k.toNat = u := ⟨_, rfl⟩
    have e : itL k = dcL u := by rw [itL_nn h1, hu]
    have h2 := hd_dc u
    have h4 := dg_at u 0 (by omega)
    have hn : ngN (itL k) = 0 := by rw [e]; unfold ngN; rw [if_neg (by omega)]
    have hd : dgL (itL k) = dcL u := by rw [dg_n hn, e]
    have hok : okD (dgL (itL k)) false = true := by
      rw [hd]
      by_cases h5 : u = 0
      · subst h5; rw [dcL_s (by omega)]; rfl
      · have h3 := h2.2 (by omega)
        exact ok_good (dg_at u) (fun e9 => h3 (by rw [e9]; rfl)) (by omega) h3
    have hv : vaL (dgL (itL k)) = u := by rw [hd, vaL_dc]
    have := nu_ok (b := false) (decide_eq_false (by omega)).symm hok (by rw [hv]; omega)
    refine ⟨this.1, ?_⟩
    rw [this.2, if_neg (by omega), hv]; omega

end Go.Proofs.YtcmldnahohmieaaDoor
