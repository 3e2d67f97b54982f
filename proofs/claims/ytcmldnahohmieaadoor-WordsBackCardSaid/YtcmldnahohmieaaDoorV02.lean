/- Lines of words. No statement is proved here. -/
import Derived.Test.YtcmldnahohmieaaDoorL02
namespace Go.Proofs.YtcmldnahohmieaaDoor
open Go.ChangeShapes Go.WideShapes Go.ChangeAt Go.RowKit
set_option linter.unusedVariables false
set_option linter.unusedSimpArgs false

/-! lines out of words -/
def esB (x : Int) : List Int := if x = 34 then [92, 34] else if x = 92 then [92, 92] else if x = 10 then [92, 110] else if x = 13 then [92, 114] else [x]
def esL : List Int → List Int
  | [] => []
  | x :: r => esB x ++ esL r
theorem esL_app (a b : List Int) : esL (a ++ b) = esL a ++ esL b := by
  induction a with
  | nil => rfl
  | cons x a ih => show esB x ++ esL (a ++ b) = esB x ++ esL a ++ esL b; rw [ih, List.append_assoc]
theorem esL_one (x : Int) : esL [x] = esB x := List.append_nil _
theorem esL_take {s : List Int} {k : Nat} (h : k < s.length) : esL (List.take (k + 1) s) = esL (List.take k s) ++ esB (List.getD s k 0) := by rw [take_snoc h, esL_app, esL_one]
theorem esB_len (x : Int) : 1 ≤ (esB x).length ∧ (esB x).length ≤ 2 := by
  unfold esB
  repeat' split
  all_goals simp
theorem esL_len : ∀ s : List Int, s.length ≤ (esL s).length ∧ (esL s).length ≤ 2 * s.length
  | [] => ⟨Nat.le_refl _, Nat.le_refl _⟩
  | x :: r => by
    show _ ≤ (esB x ++ esL r).length ∧ (esB x ++ esL r).length ≤ _
    have h1 := esB_len x; have h2 := esL_len r
    rw [List.length_append]; simp only [List.length_cons]; omega
def qtL (s : List Int) : List Int := [34] ++ esL s ++ [34]
theorem qtL_len (s : List Int) : s.length + 2 ≤ (qtL s).length ∧ (qtL s).length ≤ 2 * s.length + 2 := by
  have := esL_len s
  unfold qtL; simp only [List.length_append, List.length_cons, List.length_nil]; omega
theorem esB_byt {x : Int} (h : 0 ≤ x ∧ x ≤ 255) : Byt (esB x) := by
  unfold esB
  repeat' split
  all_goals (intro y hy; simp at hy; omega)
theorem esL_byt : ∀ {s : List Int}, Byt s → Byt (esL s)
  | [], _ => Byt.nil
  | x :: r, h => Byt.app (esB_byt (h x (List.mem_cons_self ..))) (esL_byt (fun y hy => h y (List.mem_cons_of_mem _ hy)))
theorem qtL_byt {s : List Int} (h : Byt s) : Byt (qtL s) := Byt.app (Byt.app (Byt.cons (by omega) Byt.nil) (esL_byt h)) (Byt.cons (by omega) Byt.nil)
/-- what is in the builder while a word is quoted -/
def QB (l s : List Int) (k : Nat) (b : List Int) : Prop := b = l ++ ([34] ++ esL (List.take k s))
theorem QB.zero (l s : List Int) : QB l s 0 (l ++ [34]) := by unfold QB; rw [List.take_zero]; rfl
theorem QB.zero0 (s : List Int) : QB [] s 0 [34] := rfl
theorem QB.step {l s b m : List Int} {k : Nat} (h : QB l s k b) (hk : k < s.length) (e : esB (List.getD s k 0) = m) : QB l s (k + 1) (b ++ m) := by
  unfold QB at *; subst e; rw [esL_take hk, h]; simp
theorem QB.fin {l s b : List Int} {k : Nat} (h : QB l s k b) (hk : s.length ≤ k) : b ++ [34] = l ++ qtL s := by
  unfold QB at h; rw [List.take_of_length_le hk] at h; subst h; unfold qtL; simp
theorem es_q {x : Int} (h : x = 34) : esB x = [92, 34] := by subst h; rfl
theorem es_b {x : Int} (h : x = 92) : esB x = [92, 92] := by subst h; rfl
theorem es_n {x : Int} (h : x = 10) : esB x = [92, 110] := by subst h; rfl
theorem es_r {x : Int} (h : x = 13) : esB x = [92, 114] := by subst h; rfl
theorem es_o {x : Int} (h : ¬ x = 34) (h1 : ¬ x = 92) (h2 : ¬ x = 10) (h3 : ¬ x = 13) : esB x = [x] := by unfold esB; rw [if_neg h, if_neg h1, if_neg h2, if_neg h3]
def wtL (w : List Int) : List Int := if plW w then w else qtL w
theorem wt_p {w : List Int} (h : plW w = true) : wtL w = w := by unfold wtL; rw [if_pos h]
theorem wt_q {w : List Int} (h : plW w = false) : wtL w = qtL w := by unfold wtL; rw [h]; rfl
theorem wtL_len (w : List Int) : 1 ≤ (wtL w).length ∧ w.length ≤ (wtL w).length ∧ (wtL w).length ≤ 2 * w.length + 2 := by
  have h := qtL_len w
  cases e : plW w with
  | true =>
    rw [wt_p e]
    have h2 : ¬ w.length = 0 := fun h0 => by have := plW_0 h0; rw [e] at this; cases this
    omega
  | false => rw [wt_q e]; omega
/-- the words in a line -/
def jnM : List (List Int) → List Int
  | [] => []
  | w :: r => 32 :: wtL w ++ jnM r
def jnL : List (List Int) → List Int
  | [] => []
  | w :: r => wtL w ++ jnM r
theorem jnM_app (a b : List (List Int)) : jnM (a ++ b) = jnM a ++ jnM b := by
  induction a with
  | nil => rfl
  | cons x a ih => show 32 :: wtL x ++ jnM (a ++ b) = 32 :: wtL x ++ jnM a ++ jnM b; rw [ih, List.append_assoc]
theorem take_snocL {l : List (List Int)} {i : Nat} (h : i < l.length) : List.take (i + 1) l = List.take i l ++ [List.getD l i []] := by
  rw [List.take_add_one, List.getD_eq_getElem?_getD, List.getElem?_eq_getElem h]; rfl
theorem jnL_one {rs : List (List Int)} (h : 1 ≤ rs.length) : jnL (List.take 1 rs) = wtL (List.getD rs 0 []) := by
  cases rs with
  | nil => cases h
  | cons w r => show wtL w ++ jnM (List.take 0 r) = _; rw [List.take_zero]; exact List.append_nil _
theorem jnL_take {rs : List (List Int)} {i : Nat} (h1 : 1 ≤ i) (h : i < rs.length) : jnL (List.take (i + 1) rs) = jnL (List.take i rs) ++ [32] ++ wtL (List.getD rs i []) := by
  rw [take_snocL h]
  cases rs with
  | nil => cases h
  | cons w r =>
    obtain ⟨i, rfl⟩ : ∃ j, i = j + 1 := ⟨i - 1, by omega⟩
    rw [List.take_succ_cons]
    show wtL w ++ jnM (List.take i r ++ [_]) = wtL w ++ jnM (List.take i r) ++ [32] ++ _
    rw [jnM_app]
    show wtL w ++ (jnM (List.take i r) ++ (32 :: wtL _ ++ [])) = _
    simp
/-- what is in the builder behind so many words -/
def JB (rs : List (List Int)) (i : Nat) (b : List Int) : Prop := b = jnL (List.take i rs) ∧ ∀ j, j < i → (List.getD rs j []).length ≤ 4096
def jnO (rs : List (List Int)) : Bool := decide (rs.length ≤ 64) && rs.all (fun w => decide (w.length ≤ 4096)) && decide ((jnL rs).length ≤ 4096)
def jnE (rs : List (List Int)) : Int := if jnO rs then 0 else 3
def jnT (rs : List (List Int)) : List Int := if jnO rs then jnL rs else []
theorem jn_y {rs : List (List Int)} (h : jnO rs = true) : jnE rs = 0 ∧ jnT rs = jnL rs := by unfold jnE jnT; rw [if_pos h, if_pos h]; exact ⟨rfl, rfl⟩
theorem jn_n {rs : List (List Int)} (h : jnO rs = false) : jnE rs = 3 ∧ jnT rs = [] := by unfold jnE jnT; rw [h]; exact ⟨rfl, rfl⟩
theorem jn_many {rs : List (List Int)} (h : ¬ rs.length ≤ 64) : jnO rs = false := by unfold jnO; rw [decide_eq_false h]; rfl
theorem jn_wide {rs : List (List Int)} {i : Nat} (hi : i < rs.length) (h : ¬ (List.getD rs i []).length ≤ 4096) : jnO rs = false := by
  unfold jnO
  cases e : rs.all (fun w => decide (w.length ≤ 4096)) with
  | false => rw [Bool.and_false]; rfl
  | true =>
    have := List.all_eq_true.1 e (List.getD rs i []) (by rw [List.getD_eq_getElem?_getD, List.getElem?_eq_getElem hi]; exact List.getElem_mem hi)
    exact absurd (of_decide_eq_true this) h
theorem jn_long {rs : List (List Int)} (h : ¬ (jnL rs).length ≤ 4096) : jnO rs = false := by unfold jnO; rw [decide_eq_false h, Bool.and_false]
theorem jn_ok {rs : List (List Int)} (h : rs.length ≤ 64) (h1 : ∀ j, j < rs.length → (List.getD rs j []).length ≤ 4096) (h2 : (jnL rs).length ≤ 4096) : jnO rs = true := by
  unfold jnO
  rw [decide_eq_true h, decide_eq_true h2]
  have : rs.all (fun w => decide (w.length ≤ 4096)) = true := by
    rw [List.all_eq_true]
    intro x hx
    obtain ⟨i, hi, rfl⟩ := List.mem_iff_getElem.1 hx
    have := h1 i hi
    rw [List.getD_eq_getElem?_getD, List.getElem?_eq_getElem hi] at this
    exact decide_eq_true this
  rw [this]; rfl
theorem JB.one {rs : List (List Int)} {b : List Int} (h : 1 ≤ rs.length) (h2 : (List.getD rs 0 []).length ≤ 4096) (e : b = wtL (List.getD rs 0 [])) : JB rs 1 b := by
  refine ⟨by rw [jnL_one h, e], fun j hj => ?_⟩
  have h3 : j = 0 := by omega
  subst h3
  exact h2
theorem JB.step {rs : List (List Int)} {b c : List Int} {i : Nat} (h : JB rs i b) (h1 : 1 ≤ i) (hi : i < rs.length) (h2 : (List.getD rs i []).length ≤ 4096) (e : c = b ++ [32] ++ wtL (List.getD rs i [])) : JB rs (i + 1) c := by
  refine ⟨by rw [jnL_take h1 hi, e, h.1], fun j hj => ?_⟩
  rcases Nat.lt_succ_iff_lt_or_eq.1 hj with h3 | rfl
  · exact h.2 j h3
  · exact h2
theorem JB.fin {rs : List (List Int)} {b : List Int} {i : Nat} (h : JB rs i b) (hi : rs.length ≤ i) : b = jnL rs ∧ ∀ j, j < rs.length → (List.getD rs j []).length ≤ 4096 := ⟨by rw [h.1, List.take_of_length_le hi], fun j hj => h.2 j (by omega)⟩
theorem jnL_0 {rs : List (List Int)} (h : rs.length = 0) : jnL rs = [] := by rw [List.length_eq_zero_iff.1 h]; rfl
theorem jn_nil {rs : List (List Int)} (h : rs.length = 0) : jnO rs = true := jn_ok (by omega) (fun j hj => by omega) (by rw [jnL_0 h]; exact Nat.zero_le _)
theorem jnL_byt : ∀ {rs : List (List Int)}, BytL rs → Byt (jnM rs)
  | [], _ => Byt.nil
  | w :: r, h => Byt.app (Byt.cons (by omega) (by
      have hw := h w (List.mem_cons_self ..)
      cases e : plW w with
      | true => rw [wt_p e]; exact hw
      | false => rw [wt_q e]; exact qtL_byt hw)) (jnL_byt (fun y hy => h y (List.mem_cons_of_mem _ hy)))
theorem jnT_byt {rs : List (List Int)} (h : BytL rs) : Byt (jnT rs) := by
  unfold jnT
  split
  · cases rs with
    | nil => exact Byt.nil
    | cons w r =>
      refine Byt.app ?_ (jnL_byt (fun y hy => h y (List.mem_cons_of_mem _ hy)))
      have hw := h w (List.mem_cons_self ..)
      cases e : plW w with
      | true => rw [wt_p e]; exact hw
      | false => rw [wt_q e]; exact qtL_byt hw
  · exact Byt.nil
theorem jn_rng (rs : List (List Int)) : (0 ≤ jnE rs ∧ jnE rs ≤ 3) ∧ (jnT rs).length ≤ 4096 := by
  unfold jnE jnT
  cases e : jnO rs with
  | false => exact ⟨by decide, Nat.zero_le _⟩
  | true =>
    refine ⟨by decide, ?_⟩
    unfold jnO at e
    rw [Bool.and_eq_true] at e
    exact of_decide_eq_true e.2

end Go.Proofs.YtcmldnahohmieaaDoor
