/- The reference: lines. No statement is proved here. -/
import Derived.Test.YtcmldnahohmieaaL02C
namespace Go.Proofs.Ytcmldnahohmieaa
open Go.ChangeShapes Go.WideShapes Go.ChangeAt Go.RowKit
set_option linter.unusedVariables false
set_option linter.unusedSimpArgs false

/-! the reference's lines -/
def JR (rs : List (List Int)) (i : Nat) (b : List Int) : Prop := (i = 0 ∧ b = []) ∨ (1 ≤ i ∧ JB rs i b)
theorem JR.zero (rs : List (List Int)) : JR rs 0 [] := .inl ⟨rfl, rfl⟩
theorem JR.step0 {rs : List (List Int)} {i : Nat} {b : List Int} (h : JR rs i b) (h0 : i = 0) (hi : i < rs.length) (hl : (List.getD rs i []).length ≤ 4096) : JR rs (i + 1) (b ++ wtL (List.getD rs i [])) := by
  subst h0
  rcases h with ⟨_, rfl⟩ | ⟨h, _⟩
  · exact .inr ⟨Nat.le_refl _, JB.one hi hl rfl⟩
  · omega
theorem JR.step1 {rs : List (List Int)} {i : Nat} {b : List Int} (h : JR rs i b) (h0 : ¬ i = 0) (hi : i < rs.length) (hl : (List.getD rs i []).length ≤ 4096) : JR rs (i + 1) ((b ++ [32]) ++ wtL (List.getD rs i [])) := by
  rcases h with ⟨h, _⟩ | ⟨h, h1⟩
  · exact absurd h h0
  · exact .inr ⟨by omega, h1.step h hi hl rfl⟩
theorem JR.fin {rs : List (List Int)} {i : Nat} {b : List Int} (h : JR rs i b) (hi : rs.length ≤ i) : b = jnL rs ∧ ∀ j, j < rs.length → (List.getD rs j []).length ≤ 4096 := by
  rcases h with ⟨rfl, rfl⟩ | ⟨_, h⟩
  · exact ⟨(jnL_0 (by omega)).symm, fun j hj => by omega⟩
  · exact h.fin hi
theorem jnL_le {rs : List (List Int)} {k : Nat} (hk : 1 ≤ k) : (jnL (List.take k rs)).length ≤ (jnL rs).length := by
  cases rs with
  | nil => rw [List.take_nil]; exact Nat.le_refl _
  | cons w r =>
    obtain ⟨k, rfl⟩ : ∃ j, k = j + 1 := ⟨k - 1, by omega⟩
    rw [List.take_succ_cons]
    show (wtL w ++ jnM (List.take k r)).length ≤ (wtL w ++ jnM r).length
    have e : jnM r = jnM (List.take k r) ++ jnM (List.drop k r) := by rw [← jnM_app, List.take_append_drop]
    rw [e]; simp only [List.length_append]; omega
theorem JR.long {rs : List (List Int)} {i : Nat} {b : List Int} (h : JR rs i b) (h1 : 4096 < b.length) : jnO rs = false := by
  rcases h with ⟨rfl, rfl⟩ | ⟨hi, h⟩
  · exact absurd h1 (by simp)
  · have := jnL_le (rs := rs) hi
    rw [h.1] at h1
    exact jn_long (by omega)
theorem qb_step {s b m : List Int} {k : Nat} (h : QB [] s k b) (hk : k < s.length) (e : esB (List.getD s k 0) = m) : QB [] s (k + 1) (b ++ m) := h.step hk e
theorem jr_byt {rs : List (List Int)} {i : Nat} {b : List Int} (hR : BytL rs) (h : JR rs i b) : Byt b := by
  rcases h with ⟨_, rfl⟩ | ⟨_, h⟩
  · exact Byt.nil
  · rw [h.1]
    have h2 : BytL (List.take i rs) := hR.take i
    cases e : List.take i rs with
    | nil => exact Byt.nil
    | cons w r =>
      rw [e] at h2
      refine Byt.app ?_ (jnL_byt (fun y hy => h2 y (List.mem_cons_of_mem _ hy)))
      have hw := h2 w (List.mem_cons_self ..)
      cases e2 : plW w with
      | true => rw [wt_p e2]; exact hw
      | false => rw [wt_q e2]; exact qtL_byt hw

end Go.Proofs.Ytcmldnahohmieaa
