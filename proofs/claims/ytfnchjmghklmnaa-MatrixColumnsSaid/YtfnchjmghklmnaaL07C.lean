/- Columns of a default matrix. No statement is proved here. -/
import Derived.Test.YtfnchjmghklmnaaL07E
import Derived.Test.YtfnchjmghklmnaaLCut
namespace Go.Proofs.Ytfnchjmghklmnaa
open Go.ChangeShapes Go.WideShapes Go.ChangeAt Go.RowKit
set_option linter.unusedVariables false
set_option linter.unusedSimpArgs false


theorem put_at {to acc : List Int} {n m col r k : Nat} {g c : Int} (hg : 0 ≤ idxK to g m) (hl : List.length acc = n * m) (hcol : col < n) (hk : k < n) : List.getD (put to n m col g c acc) (r * n + k) 0 = if ixN to g m = r ∧ col = k then c else List.getD acc (r * n + k) 0 := by
  unfold put
  have hx := (ixN_ok hg n).2.2
  rw [set_at (by omega)]
  by_cases he : ixN to g m * n + col = r * n + k
  · have e1 : ixN to g m = r := by rw [← at_div (f := ixN to g m) hcol, he, at_div hk]
    have e2 : col = k := by rw [← at_mod (f := ixN to g m) hcol, he, at_mod hk]
    rw [if_pos he, if_pos ⟨e1, e2⟩]
  · rw [if_neg he, if_neg]
    rintro ⟨e1, e2⟩
    exact he (by rw [e1, e2])
/-- what row r gets of position p -/
def cfV (to : List Int) (m : Nat) (p : Int) (r : Nat) : Int :=
  if 0 ≤ idxK to p m then (if ixN to p m = r then 32768 else 0)
  else if p = 3 then (if 0 ≤ idxK to 1 m ∧ 0 ≤ idxK to 2 m then (if ixN to 2 m = r then 23170 else if ixN to 1 m = r then 23170 else 0) else 0)
  else if p ≤ 2 then (if 0 ≤ idxK to 3 m then (if ixN to 3 m = r then 23170 else 0) else 0)
  else if p = 4 then 0
  else if 0 ≤ idxK to (w1 p) m then (if ixN to (w1 p) m = r then 23170 else 0)
  else if 0 ≤ idxK to (w2 p) m then (if ixN to (w2 p) m = r then 23170 else 0)
  else if 0 ≤ idxK to 3 m then (if ixN to 3 m = r then 23170 else 0) else 0
theorem put_eq {to acc : List Int} {n m col r k : Nat} {g c y : Int} (hg : 0 ≤ idxK to g m) (hl : List.length acc = n * m) (hcol : col < n) (hk : k < n) (h0 : k = col → List.getD acc (r * n + k) 0 = y) : List.getD (put to n m col g c acc) (r * n + k) 0 = if k = col then (if ixN to g m = r then c else y) else List.getD acc (r * n + k) 0 := by
  rw [put_at hg hl hcol hk]
  by_cases h1 : k = col
  · rw [if_pos h1, h0 h1]
    by_cases h2 : ixN to g m = r
    · rw [if_pos ⟨h2, h1.symm⟩, if_pos h2]
    · rw [if_neg (fun h => h2 h.1), if_neg h2]
  · rw [if_neg h1, if_neg (fun h => h1 h.2.symm)]
theorem self_eq {x y : Int} {k col : Nat} (h0 : k = col → x = y) : x = if k = col then y else x := by
  by_cases h : k = col
  · rw [if_pos h]; exact h0 h
  · rw [if_neg h]
theorem put_len (to : List Int) (n m col : Nat) (g c : Int) (acc : List Int) : List.length (put to n m col g c acc) = List.length acc := by unfold put; exact List.length_set
theorem dfS_at {to acc : List Int} {n m col r k : Nat} {p : Int} (hl : List.length acc = n * m) (hcol : col < n) (hk : k < n) (h0 : k = col → List.getD acc (r * n + k) 0 = 0) : List.getD (dfS to n m col p acc) (r * n + k) 0 = if k = col then cfV to m p r else List.getD acc (r * n + k) 0 := by
  unfold dfS cfV
  by_cases a1 : 0 ≤ idxK to p m
  · rw [if_pos a1, if_pos a1]; exact put_eq a1 hl hcol hk h0
  rw [if_neg a1, if_neg a1]
  by_cases a2 : p = 3
  · rw [if_pos a2, if_pos a2]
    by_cases a3 : 0 ≤ idxK to 1 m ∧ 0 ≤ idxK to 2 m
    · rw [if_pos a3, if_pos a3]
      have e := put_eq (c := 23170) a3.1 hl hcol hk h0
      rw [put_eq (y := if ixN to 1 m = r then 23170 else 0) a3.2 (by rw [put_len]; exact hl) hcol hk (fun h => by rw [e, if_pos h]), e]
      by_cases h : k = col
      · rw [if_pos h, if_pos h]
      · rw [if_neg h, if_neg h, if_neg h]
    · rw [if_neg a3, if_neg a3]; exact self_eq h0
  rw [if_neg a2, if_neg a2]
  by_cases a4 : p ≤ 2
  · rw [if_pos a4, if_pos a4]
    by_cases a3 : 0 ≤ idxK to 3 m
    · rw [if_pos a3, if_pos a3]; exact put_eq a3 hl hcol hk h0
    · rw [if_neg a3, if_neg a3]; exact self_eq h0
  rw [if_neg a4, if_neg a4]
  by_cases a5 : p = 4
  · rw [if_pos a5, if_pos a5]; exact self_eq h0
  rw [if_neg a5, if_neg a5]
  by_cases a6 : 0 ≤ idxK to (w1 p) m
  · rw [if_pos a6, if_pos a6]; exact put_eq a6 hl hcol hk h0
  rw [if_neg a6, if_neg a6]
  by_cases a7 : 0 ≤ idxK to (w2 p) m
  · rw [if_pos a7, if_pos a7]; exact put_eq a7 hl hcol hk h0
  rw [if_neg a7, if_neg a7]
  by_cases a8 : 0 ≤ idxK to 3 m
  · rw [if_pos a8, if_pos a8]; exact put_eq a8 hl hcol hk h0
  · rw [if_neg a8, if_neg a8]; exact self_eq h0
theorem dfL_at {fr to : List Int} {n m r k : Nat} (hk : k < n) : ∀ s, s ≤ n → List.getD (dfL fr to n m s) (r * n + k) 0 = if k < s then cfV to m (List.getD fr k 0) r else 0
  | 0, _ => by
    show List.getD (List.replicate (n * m) 0) _ 0 = _
    rw [getD_rep, if_neg (by omega)]
  | s + 1, hs => by
    have ih := dfL_at (fr := fr) (to := to) (m := m) (r := r) hk s (by omega)
    show List.getD (dfS to n m s (List.getD fr s 0) (dfL fr to n m s)) (r * n + k) 0 = _
    rw [dfS_at (dfL_len fr to n m s) (by omega) hk (fun h => by rw [ih, if_neg (by omega)])]
    by_cases h : k = s
    · subst h; rw [if_pos rfl, if_pos (by omega)]
    · rw [if_neg h, ih]
      by_cases h2 : k < s
      · rw [if_pos h2, if_pos (by omega)]
      · rw [if_neg h2, if_neg (by omega)]
theorem one_cases {a r : Nat} {x : Int} : (if a = r then x else 0) = x ∨ (if a = r then x else 0) = 0 := by
  by_cases h : a = r
  · exact .inl (if_pos h)
  · exact .inr (if_neg h)
theorem cf_here {to : List Int} {m : Nat} {p : Int} (h : 0 ≤ idxK to p m) (r : Nat) : cfV to m p r = if ixN to p m = r then 32768 else 0 := by unfold cfV; rw [if_pos h]
/-- the rows that get a part, if p is not there -/
theorem cf_else {to : List Int} {m : Nat} {p : Int} (h : ¬ 0 ≤ idxK to p m) : (∃ a b, ∀ r, (cfV to m p r = 23170 ∧ (r = a ∨ r = b ∧ p = 3)) ∨ cfV to m p r = 0) := by
  have one : ∀ g : Int, (∀ r, cfV to m p r = if ixN to g m = r then 23170 else 0) → ∃ a b, ∀ r, (cfV to m p r = 23170 ∧ (r = a ∨ r = b ∧ p = 3)) ∨ cfV to m p r = 0 := fun g hg => ⟨ixN to g m, 0, fun r => by
    rw [hg]
    by_cases h : ixN to g m = r
    · exact .inl ⟨if_pos h, .inl h.symm⟩
    · exact .inr (if_neg h)⟩
  have none : (∀ r, cfV to m p r = 0) → ∃ a b, ∀ r, (cfV to m p r = 23170 ∧ (r = a ∨ r = b ∧ p = 3)) ∨ cfV to m p r = 0 := fun hg => ⟨0, 0, fun r => .inr (hg r)⟩
  by_cases a2 : p = 3
  · by_cases a3 : 0 ≤ idxK to 1 m ∧ 0 ≤ idxK to 2 m
    · refine ⟨ixN to 2 m, ixN to 1 m, fun r => ?_⟩
      have e : cfV to m p r = if ixN to 2 m = r then 23170 else if ixN to 1 m = r then 23170 else 0 := by unfold cfV; rw [if_neg h, if_pos a2, if_pos a3]
      rw [e]
      by_cases h1 : ixN to 2 m = r
      · exact .inl ⟨if_pos h1, .inl h1.symm⟩
      · rw [if_neg h1]
        by_cases h2 : ixN to 1 m = r
        · exact .inl ⟨if_pos h2, .inr ⟨h2.symm, a2⟩⟩
        · exact .inr (if_neg h2)
    · exact none fun r => by unfold cfV; rw [if_neg h, if_pos a2, if_neg a3]
  by_cases a4 : p ≤ 2
  · by_cases a3 : 0 ≤ idxK to 3 m
    · exact one 3 fun r => by unfold cfV; rw [if_neg h, if_neg a2, if_pos a4, if_pos a3]
    · exact none fun r => by unfold cfV; rw [if_neg h, if_neg a2, if_pos a4, if_neg a3]
  by_cases a5 : p = 4
  · exact none fun r => by unfold cfV; rw [if_neg h, if_neg a2, if_neg a4, if_pos a5]
  by_cases a6 : 0 ≤ idxK to (w1 p) m
  · exact one (w1 p) fun r => by unfold cfV; rw [if_neg h, if_neg a2, if_neg a4, if_neg a5, if_pos a6]
  by_cases a7 : 0 ≤ idxK to (w2 p) m
  · exact one (w2 p) fun r => by unfold cfV; rw [if_neg h, if_neg a2, if_neg a4, if_neg a5, if_neg a6, if_pos a7]
  by_cases a8 : 0 ≤ idxK to 3 m
  · exact one 3 fun r => by unfold cfV; rw [if_neg h, if_neg a2, if_neg a4, if_neg a5, if_neg a6, if_neg a7, if_pos a8]
  · exact none fun r => by unfold cfV; rw [if_neg h, if_neg a2, if_neg a4, if_neg a5, if_neg a6, if_neg a7, if_neg a8]
theorem cf_cases (to : List Int) (m : Nat) (p : Int) (r : Nat) : (cfV to m p r = 32768 ∧ List.getD to r 0 = p) ∨ cfV to m p r = 23170 ∨ cfV to m p r = 0 := by
  by_cases h : 0 ≤ idxK to p m
  · rw [cf_here h]
    by_cases h1 : ixN to p m = r
    · rw [if_pos h1]; exact .inl ⟨rfl, by rw [← h1]; exact (idxK_get m h).1⟩
    · rw [if_neg h1]; exact .inr (.inr rfl)
  · obtain ⟨a, b, hab⟩ := cf_else h
    rcases hab r with h1 | h1
    · exact .inr (.inl h1.1)
    · exact .inr (.inr h1)
theorem df_at {fr to : List Int} {n m r c : Nat} (hc : c < n) : (List.getD (dfL fr to n m n) (r * n + c) 0 = 32768 ∧ List.getD to r 0 = List.getD fr c 0) ∨ List.getD (dfL fr to n m n) (r * n + c) 0 = 23170 ∨ List.getD (dfL fr to n m n) (r * n + c) 0 = 0 := by
  rw [dfL_at hc n (Nat.le_refl _), if_pos hc]; exact cf_cases to m _ r
theorem df_MV {fr to : List Int} {n m : Nat} (h1 : 1 ≤ n ∧ n ≤ 8) (h2 : 1 ≤ m ∧ m ≤ 8) : MV n m (dfL fr to n m n) := ⟨h1.1, h1.2, h2.1, h2.2, dfL_len fr to n m n, fun j hj => by
  have e : j = j / n * n + j % n := by rw [Nat.mul_comm]; exact (Nat.div_add_mod j n).symm
  rw [e]
  rcases df_at (fr := fr) (to := to) (m := m) (r := j / n) (Nat.mod_lt j (show 0 < n by omega)) with h | h | h <;> omega⟩
/-- how many of the first k rows have x in column c -/
def cnV (l : List Int) (n c : Nat) (x : Int) : Nat → Nat
  | 0 => 0
  | k + 1 => cnV l n c x k + (if List.getD l (k * n + c) 0 = x then 1 else 0)
theorem cn_le (l : List Int) (n c : Nat) (x : Int) : ∀ k, cnV l n c x k ≤ k
  | 0 => Nat.le_refl _
  | k + 1 => by
    have := cn_le l n c x k
    show cnV l n c x k + (if _ then 1 else 0) ≤ k + 1
    split <;> omega
theorem cn_step (l : List Int) (n c : Nat) (x : Int) (k : Nat) : (List.getD l (k * n + c) 0 = x ∧ cnV l n c x (k + 1) = cnV l n c x k + 1) ∨ (¬ List.getD l (k * n + c) 0 = x ∧ cnV l n c x (k + 1) = cnV l n c x k) := by
  show (_ ∧ cnV l n c x k + (if _ then 1 else 0) = _) ∨ (_ ∧ cnV l n c x k + (if _ then 1 else 0) = _)
  by_cases h : List.getD l (k * n + c) 0 = x
  · exact .inl ⟨h, by rw [if_pos h]⟩
  · exact .inr ⟨h, by rw [if_neg h]; rfl⟩
theorem cn_no {l : List Int} {n c : Nat} {x : Int} (h : ∀ k, List.getD l (k * n + c) 0 ≠ x) : ∀ m, cnV l n c x m = 0
  | 0 => rfl
  | m + 1 => by show cnV l n c x m + _ = 0; rw [cn_no h m, if_neg (h m)]
theorem cn_one {l : List Int} {n c a : Nat} {x : Int} (h : ∀ k, List.getD l (k * n + c) 0 = x → k = a) : ∀ m, cnV l n c x m ≤ 1 ∧ (m ≤ a → cnV l n c x m = 0)
  | 0 => ⟨Nat.zero_le _, fun _ => rfl⟩
  | m + 1 => by
    have ih := cn_one h m
    show cnV l n c x m + _ ≤ 1 ∧ (m + 1 ≤ a → cnV l n c x m + _ = 0)
    by_cases h1 : List.getD l (m * n + c) 0 = x
    · have := h m h1; rw [if_pos h1, ih.2 (by omega)]; exact ⟨by omega, fun h9 => by omega⟩
    · rw [if_neg h1]; exact ⟨ih.1, fun h9 => ih.2 (by omega)⟩
theorem cn_two {l : List Int} {n c a b : Nat} {x : Int} (h : ∀ k, List.getD l (k * n + c) 0 = x → k = a ∨ k = b) : ∀ m, cnV l n c x m ≤ (if a < m then 1 else 0) + (if b < m then 1 else 0)
  | 0 => Nat.zero_le _
  | m + 1 => by
    have ih := cn_two h m
    show cnV l n c x m + (if List.getD l (m * n + c) 0 = x then 1 else 0) ≤ _
    by_cases h1 : List.getD l (m * n + c) 0 = x
    · rw [if_pos h1]
      have := h m h1
      (repeat' split at ih) <;> (repeat' split) <;> omega
    · rw [if_neg h1]
      (repeat' split at ih) <;> (repeat' split) <;> omega
theorem cn_yes {l : List Int} {n c a : Nat} {x : Int} (ha : List.getD l (a * n + c) 0 = x) : ∀ m, a < m → 1 ≤ cnV l n c x m
  | m + 1, h => by
    show 1 ≤ cnV l n c x m + _
    by_cases h1 : a = m
    · subst h1; rw [if_pos ha]; omega
    · have := cn_yes ha m (by omega); omega
/-- what a column of a default matrix comes to -/
theorem df_col {fr to : List Int} {n m c : Nat} (hc : c < n) : (0 ≤ idxK to (List.getD fr c 0) m ∧ cnV (dfL fr to n m n) n c 32768 m = 1 ∧ cnV (dfL fr to n m n) n c 23170 m = 0) ∨ (idxK to (List.getD fr c 0) m < 0 ∧ cnV (dfL fr to n m n) n c 32768 m = 0 ∧ (cnV (dfL fr to n m n) n c 23170 m ≤ 1 ∨ (cnV (dfL fr to n m n) n c 23170 m = 2 ∧ List.getD fr c 0 = 3))) := by
  have hv : ∀ r, List.getD (dfL fr to n m n) (r * n + c) 0 = cfV to m (List.getD fr c 0) r := fun r => by rw [dfL_at hc n (Nat.le_refl _), if_pos hc]
  by_cases h : 0 ≤ idxK to (List.getD fr c 0) m
  · have hh : ∀ r, List.getD (dfL fr to n m n) (r * n + c) 0 = if ixN to (List.getD fr c 0) m = r then 32768 else 0 := fun r => by rw [hv, cf_here h]
    refine .inl ⟨h, ?_, cn_no (fun k => ?_) m⟩
    · have a1 := (cn_one (l := dfL fr to n m n) (n := n) (c := c) (x := 32768) (a := ixN to (List.getD fr c 0) m) (fun k hk => by
        rw [hh] at hk
        by_cases h1 : ixN to (List.getD fr c 0) m = k
        · exact h1.symm
        · rw [if_neg h1] at hk; omega) m).1
      have a2 := cn_yes (l := dfL fr to n m n) (n := n) (c := c) (x := 32768) (a := ixN to (List.getD fr c 0) m) (by rw [hh, if_pos rfl]) m (idxK_get m h).2.1
      omega
    · rw [hh]; split <;> omega
  · obtain ⟨a, b, hab⟩ := cf_else h
    refine .inr ⟨by omega, cn_no (fun k => ?_) m, ?_⟩
    · rw [hv]; have := hab k; omega
    · by_cases h3 : List.getD fr c 0 = 3
      · have := cn_two (l := dfL fr to n m n) (n := n) (c := c) (x := 23170) (a := a) (b := b) (fun k hk => by rw [hv] at hk; have := hab k; omega) m
        (repeat' split at this) <;> omega
      · have := (cn_one (l := dfL fr to n m n) (n := n) (c := c) (x := 23170) (a := a) (fun k hk => by rw [hv] at hk; have := hab k; omega) m).1
        exact .inl this
/- a matrix over a block in pieces -/
theorem dotV_pc {l da : List Int} {i f t a g : Nat} (hg : g < t - f) : ∀ k, k ≤ i → dotV l (pcL i da f t) a (g * i) k = dotV l da a ((f + g) * i) k
  | 0, _ => rfl
  | k + 1, hk => by
    show dotV _ _ _ _ k + _ = dotV _ _ _ _ k + _
    have h1 : (g + 1) * i ≤ (t - f) * i := Nat.mul_le_mul_right _ hg
    rw [Nat.succ_mul, Nat.sub_mul] at h1
    rw [dotV_pc hg k (by omega), pcL_at (n := 0) (by omega), show f * i + (g * i + k) = (f + g) * i + k by rw [Nat.add_mul]; omega]
theorem apA_pc {l da : List Int} {i o f t : Nat} (ho : 1 ≤ o) (hf : f ≤ t) : apA l da i o (f * o) ++ apA l (pcL i da f t) i o ((t - f) * o) = apA l da i o (t * o) := by
  have e1 : f * o ≤ t * o := Nat.mul_le_mul_right _ hf
  refine ext_len (by rw [List.length_append, apA_len, apA_len, apA_len, Nat.sub_mul]; omega) fun j hj => ?_
  rw [List.length_append, apA_len, apA_len, Nat.sub_mul] at hj
  have hR : List.getD (apA l da i o (t * o)) j 0 = apE l da i (j % o) (j / o) := by unfold apA; exact map_getD (by omega)
  rw [hR]
  by_cases h : j < f * o
  · rw [getD_app_l (by rw [apA_len]; exact h)]; unfold apA; exact map_getD h
  · rw [getD_app_r (by rw [apA_len]; omega), apA_len]
    have h2 : j - f * o < (t - f) * o := by rw [Nat.sub_mul]; omega
    have e : List.getD (apA l (pcL i da f t) i o ((t - f) * o)) (j - f * o) 0 = apE l (pcL i da f t) i ((j - f * o) % o) ((j - f * o) / o) := by unfold apA; exact map_getD h2
    rw [e]
    have h3 : (j - f * o) / o < t - f := by rw [Nat.div_lt_iff_lt_mul (by omega)]; exact h2
    have h4 : j = (j - f * o) + o * f := by have h7 : o * f = f * o := Nat.mul_comm _ _; omega
    have h5 : j % o = (j - f * o) % o := by conv => lhs; rw [h4, Nat.add_mul_mod_self_left]
    have h6 : j / o = f + (j - f * o) / o := by conv => lhs; rw [h4, Nat.add_mul_div_left _ _ (show 0 < o by omega), Nat.add_comm]
    rw [h5, h6]
    unfold apE
    rw [dotV_pc h3 i (Nat.le_refl _)]

end Go.Proofs.Ytfnchjmghklmnaa
