/- Words. No statement is proved here. -/
import Derived.Test.YtcmldnahohmieaaDoorLBd
namespace Go.Proofs.YtcmldnahohmieaaDoor
open Go.ChangeShapes Go.WideShapes Go.ChangeAt Go.RowKit
set_option linter.unusedVariables false
set_option linter.unusedSimpArgs false

/-- texts that are read alone -/
def stD (xs : List (List Int)) : List D := xs.map fun l => D.lit (.string (strOfNums l))
theorem stD_len (xs : List (List Int)) : (stD xs).length = xs.length := by unfold stD; simp
theorem stD_cat (xs : List (List Int)) (l : List Int) : stD xs ++ [D.lit (.string (strOfNums l))] = stD (xs ++ [l]) := by unfold stD; simp
theorem stD_app (xs ys : List (List Int)) : stD xs ++ stD ys = stD (xs ++ ys) := by unfold stD; simp
theorem stD_at (xs : List (List Int)) (i : Nat) (h : i < xs.length) : (List.drop i (stD xs))[0]? = some (D.lit (.string (strOfNums (List.getD xs i [])))) := by
  unfold stD
  rw [List.getElem?_drop, Nat.add_zero, List.getElem?_map, List.getElem?_eq_getElem h, List.getD_eq_getElem?_getD, List.getElem?_eq_getElem h]; rfl
theorem stD_take (xs : List (List Int)) (n : Nat) : List.take (n * 1) (List.drop (0 * 1) (stD xs)) = stD (List.take n xs) := by unfold stD; simp [List.map_take]
def plB (x : Int) : Bool := decide (33 ≤ x ∧ x ≤ 126 ∧ ¬ x = 34 ∧ ¬ x = 92)
def plW (l : List Int) : Bool := l.all plB && decide (¬ l.length = 0)
theorem all_of {l : List Int} {p : Int → Bool} (h : ∀ j, j < l.length → p (List.getD l j 0) = true) : l.all p = true := by
  rw [List.all_eq_true]
  intro x hx
  obtain ⟨i, hi, rfl⟩ := List.mem_iff_getElem.1 hx
  have := h i hi
  rwa [List.getD_eq_getElem?_getD, List.getElem?_eq_getElem hi] at this
theorem all_at {l : List Int} {p : Int → Bool} (h : l.all p = true) (j : Nat) (hj : j < l.length) : p (List.getD l j 0) = true := by
  rw [List.getD_eq_getElem?_getD, List.getElem?_eq_getElem hj]
  exact List.all_eq_true.1 h _ (List.getElem_mem hj)
theorem plW_t {l : List Int} (h : ∀ j, j < l.length → plB (List.getD l j 0) = true) (h2 : ¬ l.length = 0) : plW l = true := by unfold plW; rw [all_of h, decide_eq_true h2]; rfl
theorem plW_0 {l : List Int} (h2 : l.length = 0) : plW l = false := by unfold plW; rw [decide_eq_false (by simpa using h2), Bool.and_false]
theorem plW_f {l : List Int} {k : Nat} (hk : k < l.length) (h : plB (List.getD l k 0) = false) : plW l = false := by
  unfold plW
  cases hb : l.all plB with
  | false => rfl
  | true => have := all_at hb k hk; rw [h] at this; cases this
def prV (x : Int) : Int := if x = 34 ∨ x = 92 then x else if x = 110 then 10 else if x = 114 then 13 else 0
def prK (x : Int) : Bool := decide (x = 34 ∨ x = 92 ∨ x = 110 ∨ x = 114)
theorem prV_rng {x : Int} (h : 0 ≤ x ∧ x ≤ 255) : 0 ≤ prV x ∧ prV x ≤ 255 := by unfold prV; repeat' split <;> omega
abbrev RdS := Int × List Int × List (List Int)
/-- the reader of a line -/
def rd1 (s : RdS) (x : Int) : Option RdS := match s with
  | (st, w, ws) =>
    if st = 0 then (if x = 34 then some (2, w, ws) else if plB x then some (1, w ++ [x], ws) else none)
    else if st = 1 then (if x = 32 then some (0, [], ws ++ [w]) else if plB x then some (1, w ++ [x], ws) else none)
    else if st = 2 then (if x = 34 then some (4, [], ws ++ [w]) else if x = 92 then some (3, w, ws) else if x = 10 ∨ x = 13 then none else some (2, w ++ [x], ws))
    else if st = 3 then (if prK x then some (2, w ++ [prV x], ws) else none)
    else (if x = 32 then some (0, w, ws) else none)
def rdF : Option RdS → List Int → Option RdS
  | none, _ => none
  | some s, [] => some s
  | some s, x :: r => rdF (rd1 s x) r
theorem rdF_none : ∀ l : List Int, rdF none l = none
  | [] => rfl
  | _ :: _ => rfl
theorem rdF_app (s : Option RdS) (a b : List Int) : rdF s (a ++ b) = rdF (rdF s a) b := by
  induction a generalizing s with
  | nil => cases s <;> rfl
  | cons x a ih => cases s with
    | none => cases b <;> rfl
    | some s => exact ih _
def rdE (s : Option RdS) : Option (List (List Int)) := match s with
  | some (st, w, ws) => if st = 1 then some (ws ++ [w]) else if st = 4 then some ws else none
  | none => none
theorem take_snoc {l : List Int} {i : Nat} (h : i < l.length) : List.take (i + 1) l = List.take i l ++ [List.getD l i 0] := by
  rw [List.take_add_one, List.getD_eq_getElem?_getD, List.getElem?_eq_getElem h]; rfl
abbrev rd0 : Option RdS := some (0, [], [])
/-- the reader behind so many bytes -/
def RD (l : List Int) (i : Nat) (st : Int) (w : List Int) (ws : List (List Int)) : Prop := rdF rd0 (List.take i l) = some (st, w, ws)
theorem RD.zero (l : List Int) : RD l 0 0 [] [] := by unfold RD; rw [List.take_zero]; rfl
theorem RD.step {l : List Int} {i : Nat} {st st2 : Int} {w w2 : List Int} {ws ws2 : List (List Int)} (h : RD l i st w ws) (hi : i < l.length) (h2 : rd1 (st, w, ws) (List.getD l i 0) = some (st2, w2, ws2)) : RD l (i + 1) st2 w2 ws2 := by
  unfold RD at *
  rw [take_snoc hi, rdF_app, h]
  show rdF (rd1 _ _) [] = _
  rw [h2]; rfl
theorem RD.bad {l : List Int} {i : Nat} {st : Int} {w : List Int} {ws : List (List Int)} (h : RD l i st w ws) (hi : i < l.length) (h2 : rd1 (st, w, ws) (List.getD l i 0) = none) : rdE (rdF rd0 l) = none := by
  have e : l = List.take (i + 1) l ++ List.drop (i + 1) l := (List.take_append_drop _ _).symm
  rw [e, rdF_app, take_snoc hi, rdF_app, h]
  show rdE (rdF (rdF (rd1 _ _) []) _) = none
  rw [h2, rdF_none, rdF_none]; rfl
theorem RD.all {l : List Int} {i : Nat} {st : Int} {w : List Int} {ws : List (List Int)} (h : RD l i st w ws) (hi : l.length ≤ i) : rdF rd0 l = some (st, w, ws) := by
  unfold RD at h
  rwa [List.take_of_length_le hi] at h
/-- the words of a line: the code's way -/
def spO (l : List Int) : Option (List (List Int)) := rdE (rdF rd0 l)
def spE (l : List Int) : Int := if 4096 < l.length then 3 else if l.length = 0 then 0 else match spO l with
  | none => 5
  | some ws => if 64 < ws.length then 3 else 0
def spL (l : List Int) : List (List Int) := if spE l = 0 then (if l.length = 0 then [] else (spO l).getD []) else []
/-! the reference's way -/
def pwN : List Int → Nat
  | [] => 0
  | x :: r => if plB x then pwN r + 1 else 0
def qw : List Int → Option (List Int × Nat)
  | [] => none
  | [c] => if c = 34 then some ([], 1) else none
  | c :: p :: t => if c = 34 then some ([], 1) else if c = 10 ∨ c = 13 then none else if c = 92 then (if prK p then (qw t).map (fun x => (prV p :: x.1, x.2 + 2)) else none) else (qw (p :: t)).map (fun x => (c :: x.1, x.2 + 1))
def wd (r : List Int) : Option (List Int × Nat) := if List.getD r 0 0 = 34 ∧ 1 ≤ r.length then (qw (List.drop 1 r)).map (fun x => (x.1, x.2 + 1)) else if pwN r = 0 then none else some (List.take (pwN r) r, pwN r)
theorem pwN_le : ∀ r : List Int, pwN r ≤ r.length
  | [] => Nat.le_refl _
  | x :: r => by unfold pwN; have := pwN_le r; split <;> simp <;> omega
theorem qw_le : ∀ (n : Nat) (r : List Int), r.length ≤ n → ∀ a k, qw r = some (a, k) → 1 ≤ k ∧ k ≤ r.length
  | 0, r, h, a, k, h2 => by
    have : r = [] := List.length_eq_zero_iff.1 (by omega)
    subst this; cases h2
  | n + 1, [], _, a, k, h2 => by cases h2
  | n + 1, [c], _, a, k, h2 => by unfold qw at h2; split at h2 <;> cases h2; simp
  | n + 1, c :: p :: t, h, a, k, h2 => by
    unfold qw at h2
    split at h2
    · cases h2; simp
    · split at h2
      · cases h2
      · split at h2
        · split at h2
          · obtain ⟨⟨a', k'⟩, h3, h4⟩ := Option.map_eq_some_iff.1 h2
            cases h4
            have := qw_le n t (by simp at h; omega) _ _ h3
            simp; omega
          · cases h2
        · obtain ⟨⟨a', k'⟩, h3, h4⟩ := Option.map_eq_some_iff.1 h2
          cases h4
          have := qw_le n (p :: t) (by simp at h ⊢; omega) _ _ h3
          simp at this ⊢; omega
theorem wd_le {r a : List Int} {k : Nat} (h : wd r = some (a, k)) : 1 ≤ k ∧ k ≤ r.length := by
  unfold wd at h
  split at h
  · rename_i h1
    obtain ⟨⟨a', k'⟩, h3, h4⟩ := Option.map_eq_some_iff.1 h
    cases h4
    have := qw_le _ _ (Nat.le_refl _) _ _ h3
    rw [List.length_drop] at this
    omega
  · split at h
    · cases h
    · cases h
      exact ⟨by omega, pwN_le r⟩
def spN : Nat → List Int → Option (List (List Int))
  | 0, _ => none
  | n + 1, r => match wd r with
    | none => none
    | some (w, k) => if k = r.length then some [w] else if List.getD r k 0 = 32 then (spN n (List.drop (k + 1) r)).map (fun x => w :: x) else none
theorem getD_dropS {l : List Int} {n j : Nat} : List.getD (List.drop n l) j 0 = List.getD l (n + j) 0 := by
  rw [List.getD_eq_getElem?_getD, List.getD_eq_getElem?_getD, List.getElem?_drop]
theorem rd_plain : ∀ (r w : List Int) (ws : List (List Int)), rdE (rdF (some (1, w, ws)) r) = if pwN r = r.length then some (ws ++ [w ++ r]) else if List.getD r (pwN r) 0 = 32 then rdE (rdF (some (0, [], ws ++ [w ++ List.take (pwN r) r])) (List.drop (pwN r + 1) r)) else none
  | [], w, ws => by simp [pwN, rdF, rdE]
  | x :: r, w, ws => by
    show rdE (rdF (rd1 (1, w, ws) x) r) = _
    by_cases h1 : plB x = true
    · have hx : ¬ x = 32 := by intro e; subst e; revert h1; decide
      have e1 : rd1 (1, w, ws) x = some (1, w ++ [x], ws) := by simp [rd1, hx, h1]
      have e2 : pwN (x :: r) = pwN r + 1 := by simp [pwN, h1]
      rw [e1, rd_plain r (w ++ [x]) ws, e2]
      simp
    · have e2 : pwN (x :: r) = 0 := by simp [pwN, h1]
      rw [e2]
      by_cases hx : x = 32
      · subst hx
        have e1 : rd1 (1, w, ws) 32 = some (0, [], ws ++ [w]) := by simp [rd1]
        rw [e1]; simp
      · have e1 : rd1 (1, w, ws) x = none := by simp [rd1, hx, h1]
        rw [e1]; simp [hx]; cases r <;> rfl
theorem rd_quoted : ∀ (n : Nat) (r w : List Int) (ws : List (List Int)), r.length ≤ n → rdE (rdF (some (2, w, ws)) r) = match qw r with
    | none => none
    | some (a, k) => if k = r.length then some (ws ++ [w ++ a]) else if List.getD r k 0 = 32 then rdE (rdF (some (0, [], ws ++ [w ++ a])) (List.drop (k + 1) r)) else none
  | _, [], w, ws, _ => by simp [qw, rdF, rdE]
  | 0, _ :: _, w, ws, h => by cases h
  | n + 1, [c], w, ws, h => by
    show rdE (rdF (rd1 (2, w, ws) c) []) = _
    by_cases h1 : c = 34
    · subst h1; simp [rd1, qw, rdF, rdE]
    · by_cases h2 : c = 92
      · subst h2; simp [rd1, qw, rdF, rdE]
      · by_cases h3 : c = 10 ∨ c = 13
        · simp [rd1, qw, rdF, rdE, h1, h2, h3]
        · simp [rd1, qw, rdF, rdE, h1, h2, h3]
  | n + 1, c :: p :: t, w, ws, h => by
    show rdE (rdF (rd1 (2, w, ws) c) (p :: t)) = _
    have ht : (p :: t).length ≤ n := by simp at h ⊢; omega
    by_cases h1 : c = 34
    · subst h1
      have e1 : rd1 (2, w, ws) 34 = some (4, [], ws ++ [w]) := by simp [rd1]
      have e2 : qw (34 :: p :: t) = some ([], 1) := by simp [qw]
      rw [e1, e2]
      show rdE (rdF (rd1 (4, [], ws ++ [w]) p) t) = _
      by_cases hp : p = 32
      · subst hp; simp [rd1]
      · simp [rd1, hp]; cases t <;> rfl
    · by_cases h2 : c = 10 ∨ c = 13
      · have h3 : ¬ c = 92 := by omega
        have e1 : rd1 (2, w, ws) c = none := by simp [rd1, h1, h2, h3]
        have e2 : qw (c :: p :: t) = none := by simp [qw, h1, h2]
        rw [e1, e2]; rfl
      · by_cases h3 : c = 92
        · subst h3
          have e1 : rd1 (2, w, ws) 92 = some (3, w, ws) := by simp [rd1]
          rw [e1]
          show rdE (rdF (rd1 (3, w, ws) p) t) = _
          by_cases hk : prK p = true
          · have e3 : rd1 (3, w, ws) p = some (2, w ++ [prV p], ws) := by simp [rd1, hk]
            have e2 : qw (92 :: p :: t) = (qw t).map (fun x => (prV p :: x.1, x.2 + 2)) := by simp [qw, hk]
            rw [e3, e2, rd_quoted n t (w ++ [prV p]) ws (by simp at ht; omega)]
            cases hq : qw t with
            | none => rfl
            | some x =>
              obtain ⟨a, k⟩ := x
              simp
          · have e3 : rd1 (3, w, ws) p = none := by simp [rd1, hk]
            have e2 : qw (92 :: p :: t) = none := by simp [qw, hk]
            rw [e3, e2]; cases t <;> rfl
        · have e1 : rd1 (2, w, ws) c = some (2, w ++ [c], ws) := by simp [rd1, h1, h2, h3]
          have e2 : qw (c :: p :: t) = (qw (p :: t)).map (fun x => (c :: x.1, x.2 + 1)) := by simp [qw, h1, h2, h3]
          rw [e1, e2, rd_quoted n (p :: t) (w ++ [c]) ws ht]
          cases hq : qw (p :: t) with
          | none => rfl
          | some x =>
            obtain ⟨a, k⟩ := x
            simp
theorem rd_words : ∀ (n : Nat) (r : List Int) (ws : List (List Int)), r.length < n → rdE (rdF (some (0, [], ws)) r) = (spN n r).map (fun x => ws ++ x)
  | 0, r, ws, h => by omega
  | n + 1, [], ws, h => by simp [spN, wd, pwN, rdF, rdE]
  | n + 1, x :: r, ws, h => by
    show rdE (rdF (rd1 (0, [], ws) x) r) = _
    have hl : r.length < n := by simp at h; omega
    by_cases h1 : x = 34
    · subst h1
      have e1 : rd1 (0, [], ws) 34 = some (2, [], ws) := by simp [rd1]
      have e2 : wd (34 :: r) = (qw r).map (fun x => (x.1, x.2 + 1)) := by simp [wd]
      rw [e1, rd_quoted _ r [] ws (Nat.le_refl _)]
      unfold spN
      rw [e2]
      cases hq : qw r with
      | none => rfl
      | some y =>
        obtain ⟨a, k⟩ := y
        by_cases h3 : k = r.length
        · simp [h3]
        · by_cases h4 : List.getD r k 0 = 32
          · have ih := rd_words n (List.drop (k + 1) r) (ws ++ [a]) (by rw [List.length_drop]; omega)
            simp only [List.getD_eq_getElem?_getD] at h4
            simp [h3, h4, ih]
            cases spN n (List.drop (k + 1) r) <;> simp
          · simp only [List.getD_eq_getElem?_getD] at h4
            simp [h3, h4]
    · have e2 : wd (x :: r) = if pwN (x :: r) = 0 then none else some (List.take (pwN (x :: r)) (x :: r), pwN (x :: r)) := by simp [wd, h1]
      unfold spN
      rw [e2]
      by_cases h2 : plB x = true
      · have e1 : rd1 (0, [], ws) x = some (1, [x], ws) := by simp [rd1, h1, h2]
        have e3 : pwN (x :: r) = pwN r + 1 := by simp [pwN, h2]
        rw [e1, rd_plain, e3]
        by_cases h3 : pwN r = r.length
        · simp [h3]
        · by_cases h4 : List.getD r (pwN r) 0 = 32
          · have ih := rd_words n (List.drop (pwN r + 1) r) (ws ++ [x :: List.take (pwN r) r]) (by rw [List.length_drop]; omega)
            simp only [List.getD_eq_getElem?_getD] at h4
            simp [h3, h4, ih]
            cases spN n (List.drop (pwN r + 1) r) <;> simp
          · simp only [List.getD_eq_getElem?_getD] at h4
            simp [h3, h4]
      · have e1 : rd1 (0, [], ws) x = none := by simp [rd1, h1, h2]
        have e3 : pwN (x :: r) = 0 := by simp [pwN, h2]
        rw [e1, e3]
        cases r <;> rfl
theorem spO_spN (l : List Int) : spO l = spN (l.length + 1) l := by
  unfold spO
  rw [rd_words (l.length + 1) l [] (by omega)]
  cases spN (l.length + 1) l <;> simp
theorem spE_rng (l : List Int) : 0 ≤ spE l ∧ spE l ≤ 5 := by
  unfold spE
  split
  · omega
  · split
    · omega
    · split
      · omega
      · split <;> omega
section
variable {st x : Int} {w : List Int} {ws : List (List Int)}
theorem rd_0q (h : st = 0) (h1 : x = 34) : rd1 (st, w, ws) x = some (2, w, ws) := by subst h h1; rfl
theorem rd_0p (h : st = 0) (h1 : ¬ x = 34) (h2 : plB x = true) : rd1 (st, w, ws) x = some (1, w ++ [x], ws) := by subst h; simp [rd1, h1, h2]
theorem rd_0n (h : st = 0) (h1 : ¬ x = 34) (h2 : plB x = false) : rd1 (st, w, ws) x = none := by subst h; simp [rd1, h1, h2]
theorem rd_1e (h : st = 1) (h1 : x = 32) : rd1 (st, w, ws) x = some (0, [], ws ++ [w]) := by subst h h1; rfl
theorem rd_1p (h : st = 1) (h1 : ¬ x = 32) (h2 : plB x = true) : rd1 (st, w, ws) x = some (1, w ++ [x], ws) := by subst h; simp [rd1, h1, h2]
theorem rd_1n (h : st = 1) (h1 : ¬ x = 32) (h2 : plB x = false) : rd1 (st, w, ws) x = none := by subst h; simp [rd1, h1, h2]
theorem rd_2e (h : st = 2) (h1 : x = 34) : rd1 (st, w, ws) x = some (4, [], ws ++ [w]) := by subst h h1; rfl
theorem rd_2b (h : st = 2) (h1 : x = 92) : rd1 (st, w, ws) x = some (3, w, ws) := by subst h h1; rfl
theorem rd_2n (h : st = 2) (h1 : x = 10 ∨ x = 13) : rd1 (st, w, ws) x = none := by
  subst h
  have a : ¬ x = 34 := by omega
  have b : ¬ x = 92 := by omega
  simp [rd1, a, b, h1]
theorem rd_2p (h : st = 2) (h1 : ¬ x = 34) (h2 : ¬ x = 92) (h3 : ¬ (x = 10 ∨ x = 13)) : rd1 (st, w, ws) x = some (2, w ++ [x], ws) := by subst h; simp [rd1, h1, h2, h3]
theorem rd_3y (h : st = 3) (h1 : x = 34 ∨ x = 92 ∨ x = 110 ∨ x = 114) : rd1 (st, w, ws) x = some (2, w ++ [prV x], ws) := by
  subst h
  have : prK x = true := decide_eq_true h1
  simp [rd1, this]
theorem rd_3n (h : st = 3) (h1 : ¬ (x = 34 ∨ x = 92 ∨ x = 110 ∨ x = 114)) : rd1 (st, w, ws) x = none := by
  subst h
  have : prK x = false := decide_eq_false h1
  simp [rd1, this]
theorem rd_4y (h0 : ¬ st = 0) (h1 : ¬ st = 1) (h2 : ¬ st = 2) (h3 : ¬ st = 3) (h : x = 32) : rd1 (st, w, ws) x = some (0, w, ws) := by simp [rd1, h0, h1, h2, h3, h]
theorem rd_4n (h0 : ¬ st = 0) (h1 : ¬ st = 1) (h2 : ¬ st = 2) (h3 : ¬ st = 3) (h : ¬ x = 32) : rd1 (st, w, ws) x = none := by simp [rd1, h0, h1, h2, h3, h]
end
theorem sp_long {l : List Int} (h : 4096 < l.length) : spE l = 3 ∧ spL l = [] := by
  have e : spE l = 3 := by unfold spE; rw [if_pos h]
  exact ⟨e, by unfold spL; rw [e]; rfl⟩
theorem sp_zero {l : List Int} (h : l.length = 0) : spE l = 0 ∧ spL l = [] := by
  have e : spE l = 0 := by unfold spE; rw [if_neg (by omega), if_pos h]
  exact ⟨e, by unfold spL; rw [e, if_pos rfl, if_pos h]⟩
theorem sp_bad {l : List Int} (h : ¬ 4096 < l.length) (h0 : ¬ l.length = 0) (h1 : spO l = none) : spE l = 5 ∧ spL l = [] := by
  have e : spE l = 5 := by unfold spE; rw [if_neg h, if_neg h0, h1]
  exact ⟨e, by unfold spL; rw [e]; rfl⟩
theorem sp_many {l : List Int} {xs : List (List Int)} (h : ¬ 4096 < l.length) (h0 : ¬ l.length = 0) (h1 : spO l = some xs) (h2 : 64 < xs.length) : spE l = 3 ∧ spL l = [] := by
  have e : spE l = 3 := by unfold spE; rw [if_neg h, if_neg h0, h1]; show (if _ then _ else _) = _; rw [if_pos h2]
  exact ⟨e, by unfold spL; rw [e]; rfl⟩
theorem sp_good {l : List Int} {xs : List (List Int)} (h : ¬ 4096 < l.length) (h0 : ¬ l.length = 0) (h1 : spO l = some xs) (h2 : ¬ 64 < xs.length) : spE l = 0 ∧ spL l = xs := by
  have e : spE l = 0 := by unfold spE; rw [if_neg h, if_neg h0, h1]; show (if _ then _ else _) = _; rw [if_neg h2]
  exact ⟨e, by unfold spL; rw [e, if_pos rfl, if_neg h0, h1]; rfl⟩
theorem RD.spBad {l : List Int} {i : Nat} {st : Int} {w : List Int} {ws : List (List Int)} (h : RD l i st w ws) (hi : i < l.length) (h2 : rd1 (st, w, ws) (List.getD l i 0) = none) : spO l = none := h.bad hi h2
theorem RD.sp1 {l : List Int} {i : Nat} {st : Int} {w : List Int} {ws : List (List Int)} (h : RD l i st w ws) (hi : l.length ≤ i) (h2 : st = 1) : spO l = some (ws ++ [w]) := by
  unfold spO; rw [h.all hi]; subst h2; rfl
theorem RD.sp4 {l : List Int} {i : Nat} {st : Int} {w : List Int} {ws : List (List Int)} (h : RD l i st w ws) (hi : l.length ≤ i) (h2 : st = 4) : spO l = some ws := by
  unfold spO; rw [h.all hi]; subst h2; rfl
theorem RD.sp0 {l : List Int} {i : Nat} {st : Int} {w : List Int} {ws : List (List Int)} (h : RD l i st w ws) (hi : l.length ≤ i) (h2 : ¬ st = 1) (h3 : ¬ st = 4) : spO l = none := by
  unfold spO; rw [h.all hi]; simp [rdE, h2, h3]
/-! the reference's loops -/
theorem pwN_drop {l : List Int} {k : Nat} (hk : k < l.length) : pwN (List.drop k l) = if plB (List.getD l k 0) = true then pwN (List.drop (k + 1) l) + 1 else 0 := by
  rw [List.drop_eq_getElem_cons hk, List.getD_eq_getElem?_getD, List.getElem?_eq_getElem hk]
  rfl
theorem pwN_step {l : List Int} {a k : Nat} (hp : pwN (List.drop a l) = k - a + pwN (List.drop k l)) (hk : k < l.length) (ha : a ≤ k) (h : plB (List.getD l k 0) = true) : pwN (List.drop a l) = (k + 1) - a + pwN (List.drop (k + 1) l) := by
  have h9 := pwN_drop hk
  rw [if_pos h] at h9
  omega
theorem pwN_stop {l : List Int} {k : Nat} (hk : k < l.length) (h : plB (List.getD l k 0) = false) : pwN (List.drop k l) = 0 := by
  rw [pwN_drop hk, h]; rfl
theorem pwN_end {l : List Int} {k : Nat} (hk : l.length ≤ k) : pwN (List.drop k l) = 0 := by rw [List.drop_eq_nil_of_le hk]; rfl
/-- what a quoted word has so far -/
def QW (l : List Int) (a i : Nat) (w : List Int) : Prop := qw (List.drop a l) = (qw (List.drop i l)).map (fun x => (w ++ x.1, x.2 + (i - a)))
theorem QW.zero (l : List Int) (a : Nat) : QW l a a [] := by
  unfold QW; rw [Nat.sub_self]; cases qw (List.drop a l) <;> simp
theorem qw_cons {l : List Int} {i : Nat} (h : i < l.length) : qw (List.drop i l) = if List.getD l i 0 = 34 then some ([], 1) else if List.getD l i 0 = 10 ∨ List.getD l i 0 = 13 then none else if List.getD l i 0 = 92 then (if i + 1 < l.length then (if prK (List.getD l (i + 1) 0) then (qw (List.drop (i + 2) l)).map (fun x => (prV (List.getD l (i + 1) 0) :: x.1, x.2 + 2)) else none) else none) else (qw (List.drop (i + 1) l)).map (fun x => (List.getD l i 0 :: x.1, x.2 + 1)) := by
  have e0 : List.getD l i 0 = l[i] := by rw [List.getD_eq_getElem?_getD, List.getElem?_eq_getElem h]; rfl
  rw [List.drop_eq_getElem_cons h, e0]
  by_cases h1 : i + 1 < l.length
  · have e1 : List.getD l (i + 1) 0 = l[i + 1] := by rw [List.getD_eq_getElem?_getD, List.getElem?_eq_getElem h1]; rfl
    rw [List.drop_eq_getElem_cons h1, e1, if_pos h1]
    rfl
  · rw [List.drop_eq_nil_of_le (show l.length ≤ i + 1 by omega), if_neg h1]
    unfold qw
    by_cases a : l[i] = 34
    · simp [a]
    · simp [a]
theorem QW.step {l w : List Int} {a i : Nat} (h : QW l a i w) (ha : a ≤ i) (hi : i < l.length) (h1 : ¬ List.getD l i 0 = 34) (h2 : ¬ (List.getD l i 0 = 10 ∨ List.getD l i 0 = 13)) (h3 : ¬ List.getD l i 0 = 92) : QW l a (i + 1) (w ++ [List.getD l i 0]) := by
  unfold QW at *
  rw [h, qw_cons hi, if_neg h1, if_neg h2, if_neg h3]
  cases qw (List.drop (i + 1) l) with
  | none => rfl
  | some x => simp; omega
theorem QW.pair {l w : List Int} {a i : Nat} (h : QW l a i w) (ha : a ≤ i) (hi : i + 1 < l.length) (h3 : List.getD l i 0 = 92) (hp : List.getD l (i + 1) 0 = 34 ∨ List.getD l (i + 1) 0 = 92 ∨ List.getD l (i + 1) 0 = 110 ∨ List.getD l (i + 1) 0 = 114) : QW l a (i + 1 + 1) (w ++ [prV (List.getD l (i + 1) 0)]) := by
  unfold QW at *
  have hk : prK (List.getD l (i + 1) 0) = true := decide_eq_true hp
  rw [h, qw_cons (by omega), if_neg (by omega), if_neg (by omega), if_pos h3, if_pos hi, if_pos hk]
  cases qw (List.drop (i + 2) l) with
  | none => rfl
  | some x => simp; omega
/-- the word at an offset -/
def wdW (l : List Int) (a : Nat) : List Int := match wd (List.drop a l) with
  | some (w, _) => w
  | none => []
def wdT (l : List Int) (a : Nat) : Nat := match wd (List.drop a l) with
  | some (_, k) => a + k
  | none => if a < l.length ∧ List.getD l a 0 = 34 then 0 else a
def wdO (l : List Int) (a : Nat) : Nat := if (wd (List.drop a l)).isSome then 1 else 0
theorem wd_some {l w : List Int} {a k : Nat} (h : wd (List.drop a l) = some (w, k)) : wdW l a = w ∧ wdT l a = a + k ∧ wdO l a = 1 := by
  unfold wdW wdT wdO; rw [h]; exact ⟨rfl, rfl, rfl⟩
theorem wd_none {l : List Int} {a : Nat} (h : wd (List.drop a l) = none) : wdW l a = [] ∧ wdT l a = (if a < l.length ∧ List.getD l a 0 = 34 then 0 else a) ∧ wdO l a = 0 := by
  unfold wdW wdT wdO; rw [h]; exact ⟨rfl, rfl, rfl⟩
theorem wd_quo {l : List Int} {a : Nat} (ha : a < l.length) (h : List.getD l a 0 = 34) : wd (List.drop a l) = (qw (List.drop (a + 1) l)).map (fun x => (x.1, x.2 + 1)) := by
  unfold wd
  rw [getD_dropS, Nat.add_zero, if_pos ⟨h, by rw [List.length_drop]; omega⟩, List.drop_drop]
theorem wd_pla {l : List Int} {a : Nat} (h : ¬ (a < l.length ∧ List.getD l a 0 = 34)) : wd (List.drop a l) = if pwN (List.drop a l) = 0 then none else some (List.take (pwN (List.drop a l)) (List.drop a l), pwN (List.drop a l)) := by
  unfold wd
  rw [getD_dropS, Nat.add_zero, if_neg (fun h9 => h ⟨by have := h9.2; rw [List.length_drop] at this; omega, h9.1⟩)]
theorem QW.close {l w : List Int} {a i : Nat} (h : QW l (a + 1) i w) (ha : a + 1 ≤ i) (hi : i < l.length) (h0 : List.getD l a 0 = 34) (h1 : List.getD l i 0 = 34) : wdW l a = w ∧ wdT l a = i + 1 ∧ wdO l a = 1 := by
  have e : wd (List.drop a l) = some (w, i + 1 - a) := by
    rw [wd_quo (by omega) h0, h, qw_cons hi, if_pos h1]
    simp; omega
  obtain ⟨e1, e2, e3⟩ := wd_some e
  exact ⟨e1, by omega, e3⟩
theorem QW.bad {l w : List Int} {a i : Nat} (h : QW l (a + 1) i w) (ha : a < l.length) (h0 : List.getD l a 0 = 34) (h1 : qw (List.drop i l) = none) : wdW l a = [] ∧ wdT l a = 0 ∧ wdO l a = 0 := by
  have e := wd_none (l := l) (a := a) (by rw [wd_quo ha h0, h, h1]; rfl)
  rw [if_pos ⟨ha, h0⟩] at e
  exact e
theorem qw_nl {l : List Int} {i : Nat} (hi : i < l.length) (h : List.getD l i 0 = 10 ∨ List.getD l i 0 = 13) : qw (List.drop i l) = none := by rw [qw_cons hi, if_neg (by omega), if_pos h]
theorem qw_out {l : List Int} {i : Nat} (hi : l.length ≤ i) : qw (List.drop i l) = none := by rw [List.drop_eq_nil_of_le hi]; rfl
theorem qw_end {l : List Int} {i : Nat} (hi : i < l.length) (h : List.getD l i 0 = 92) (h2 : ¬ i + 1 < l.length) : qw (List.drop i l) = none := by rw [qw_cons hi, if_neg (by omega), if_neg (by omega), if_pos h, if_neg h2]
theorem qw_np {l : List Int} {i : Nat} (hi : i < l.length) (h : List.getD l i 0 = 92) (h2 : ¬ (List.getD l (i + 1) 0 = 34 ∨ List.getD l (i + 1) 0 = 92 ∨ List.getD l (i + 1) 0 = 110 ∨ List.getD l (i + 1) 0 = 114)) : qw (List.drop i l) = none := by
  rw [qw_cons hi, if_neg (by omega), if_neg (by omega), if_pos h]
  have : prK (List.getD l (i + 1) 0) = false := decide_eq_false h2
  rw [this]; simp
/-- a plain word so far -/
theorem wd_plain {l : List Int} {a k : Nat} (h : ¬ (a < l.length ∧ List.getD l a 0 = 34)) (hp : pwN (List.drop a l) = k - a + pwN (List.drop k l)) (he : pwN (List.drop k l) = 0) (hak : a < k) : wdW l a = List.take (k - a) (List.drop a l) ∧ wdT l a = k ∧ wdO l a = 1 := by
  have e : wd (List.drop a l) = some (List.take (k - a) (List.drop a l), k - a) := by rw [wd_pla h, hp, he, Nat.add_zero, if_neg (by omega)]
  obtain ⟨e1, e2, e3⟩ := wd_some e
  exact ⟨e1, by omega, e3⟩
theorem wd_plain0 {l : List Int} {a : Nat} (h : ¬ (a < l.length ∧ List.getD l a 0 = 34)) (hp : pwN (List.drop a l) = 0) : wdW l a = [] ∧ wdT l a = a ∧ wdO l a = 0 := by
  have e := wd_none (l := l) (a := a) (by rw [wd_pla h, if_pos hp])
  rw [if_neg h] at e
  exact e
theorem wd_in (l : List Int) (a : Nat) : (wdO l a = 0 ∧ wdW l a = []) ∨ (wdO l a = 1 ∧ a < wdT l a ∧ wdT l a ≤ l.length) := by
  cases e : wd (List.drop a l) with
  | none =>
    have := wd_none e
    exact .inl ⟨this.2.2, this.1⟩
  | some x =>
    obtain ⟨w, k⟩ := x
    have h1 := wd_some e
    have h2 := wd_le e
    rw [List.length_drop] at h2
    exact .inr (by omega)
theorem wd_get {l : List Int} {a : Nat} (h : wdO l a = 1) : wd (List.drop a l) = some (wdW l a, wdT l a - a) := by
  cases e : wd (List.drop a l) with
  | none => have := wd_none e; omega
  | some x =>
    obtain ⟨w, k⟩ := x
    have h1 := wd_some e
    rw [h1.1, h1.2.1]; simp
theorem spN_succ (n : Nat) (r : List Int) : spN (n + 1) r = match wd r with
    | none => none
    | some (w, k) => if k = r.length then some [w] else if List.getD r k 0 = 32 then (spN n (List.drop (k + 1) r)).map (fun x => w :: x) else none := rfl
/-- the words so far -/
def SQ (l : List Int) (a : Nat) (out : List (List Int)) : Prop := ∃ f, l.length - a < f ∧ spO l = (spN f (List.drop a l)).map (fun x => out ++ x)
theorem SQ.zero (l : List Int) : SQ l 0 [] := ⟨l.length + 1, by omega, by rw [spO_spN, List.drop_zero]; cases spN (l.length + 1) l <;> rfl⟩
theorem SQ.bad {l : List Int} {a : Nat} {out : List (List Int)} (h : SQ l a out) (h1 : wdO l a = 0) : spO l = none := by
  obtain ⟨f, hf, h2⟩ := h
  obtain ⟨f, rfl⟩ : ∃ g, f = g + 1 := ⟨f - 1, by omega⟩
  rw [h2]
  rw [spN_succ]
  have e : wd (List.drop a l) = none := by
    cases e : wd (List.drop a l) with
    | none => rfl
    | some x => obtain ⟨w, k⟩ := x; have := wd_some e; omega
  rw [e]; rfl
theorem SQ.last {l : List Int} {a : Nat} {out : List (List Int)} (h : SQ l a out) (h1 : wdO l a = 1) (h3 : wdT l a = l.length) : spO l = some (out ++ [wdW l a]) := by
  obtain ⟨f, hf, h2⟩ := h
  obtain ⟨f, rfl⟩ : ∃ g, f = g + 1 := ⟨f - 1, by omega⟩
  rw [h2]
  rw [spN_succ]
  rw [wd_get h1]
  simp [h3]
theorem SQ.sep {l : List Int} {a : Nat} {out : List (List Int)} (h : SQ l a out) (h1 : wdO l a = 1) (h3 : ¬ wdT l a = l.length) (h4 : ¬ List.getD l (wdT l a) 0 = 32) : spO l = none := by
  obtain ⟨f, hf, h2⟩ := h
  obtain ⟨f, rfl⟩ : ∃ g, f = g + 1 := ⟨f - 1, by omega⟩
  have hin := wd_in l a
  rw [h2]
  rw [spN_succ]
  rw [wd_get h1]
  show Option.map _ (if _ then _ else _) = _
  rw [if_neg (by rw [List.length_drop]; omega), getD_dropS, show a + (wdT l a - a) = wdT l a by omega, if_neg h4]; rfl
theorem SQ.step {l : List Int} {a : Nat} {out : List (List Int)} (h : SQ l a out) (h1 : wdO l a = 1) (h3 : ¬ wdT l a = l.length) (h4 : List.getD l (wdT l a) 0 = 32) : SQ l (wdT l a + 1) (out ++ [wdW l a]) := by
  obtain ⟨f, hf, h2⟩ := h
  obtain ⟨f, rfl⟩ : ∃ g, f = g + 1 := ⟨f - 1, by omega⟩
  have hin := wd_in l a
  refine ⟨f, by omega, ?_⟩
  rw [h2]
  rw [spN_succ]
  rw [wd_get h1]
  show Option.map _ (if _ then _ else _) = _
  rw [if_neg (by rw [List.length_drop]; omega), getD_dropS, show a + (wdT l a - a) = wdT l a by omega, if_pos h4, List.drop_drop, show a + (wdT l a - a + 1) = wdT l a + 1 by omega]
  cases spN f (List.drop (wdT l a + 1) l) with
  | none => rfl
  | some x => simp
theorem wd_in2 (l : List Int) (a : Nat) : (wdO l a = 0) ∨ (wdO l a = 1 ∧ a < wdT l a ∧ wdT l a ≤ l.length) := (wd_in l a).imp (fun h => h.1) id

end Go.Proofs.YtcmldnahohmieaaDoor
