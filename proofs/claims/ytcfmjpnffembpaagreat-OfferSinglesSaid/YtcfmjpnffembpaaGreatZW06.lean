/- Names of positions, texts of maps. No statement is proved here. -/
import Derived.Test.YtcfmjpnffembpaaGreatZLBy
namespace Go.Proofs.YtcfmjpnffembpaaGreat
open Go.ChangeShapes Go.WideShapes Go.ChangeAt Go.RowKit
set_option linter.unusedVariables false
set_option linter.unusedSimpArgs false
def stD (xs : List (List Int)) : List D := xs.map fun l => D.lit (.string (strOfNums l))
theorem stD_len (xs : List (List Int)) : (stD xs).length = xs.length := by unfold stD; simp
/-! names of positions, texts of maps -/
def poV (l : List Int) : Int :=
  if l = [70, 76] then 1 else if l = [70, 82] then 2 else if l = [70, 67] then 3 else if l = [76, 70] then 4 else if l = [66, 76] then 5 else if l = [66, 82] then 6 else if l = [83, 76] then 7 else if l = [83, 82] then 8 else 0
def pcL (p : Int) : List Int :=
  if p = 1 then [70, 76] else if p = 2 then [70, 82] else if p = 3 then [70, 67] else if p = 4 then [76, 70] else if p = 5 then [66, 76] else if p = 6 then [66, 82] else if p = 7 then [83, 76] else if p = 8 then [83, 82] else [63]
theorem poV_rng (l : List Int) : 0 ≤ poV l ∧ poV l ≤ 8 := by
  unfold poV; (repeat' split) <;> omega
theorem eight {p : Int} (h : 1 ≤ p ∧ p ≤ 8) : p = 1 ∨ p = 2 ∨ p = 3 ∨ p = 4 ∨ p = 5 ∨ p = 6 ∨ p = 7 ∨ p = 8 := by omega
theorem pc_po {l : List Int} (h : ¬ poV l = 0) : pcL (poV l) = l := by
  by_cases h1 : l = [70, 76]
  · subst h1; decide
  by_cases h2 : l = [70, 82]
  · subst h2; decide
  by_cases h3 : l = [70, 67]
  · subst h3; decide
  by_cases h4 : l = [76, 70]
  · subst h4; decide
  by_cases h5 : l = [66, 76]
  · subst h5; decide
  by_cases h6 : l = [66, 82]
  · subst h6; decide
  by_cases h7 : l = [83, 76]
  · subst h7; decide
  by_cases h8 : l = [83, 82]
  · subst h8; decide
  exact absurd (by unfold poV; rw [if_neg h1, if_neg h2, if_neg h3, if_neg h4, if_neg h5, if_neg h6, if_neg h7, if_neg h8]) h
theorem pcL_len2 {p : Int} (h : 1 ≤ p ∧ p ≤ 8) : (pcL p).length = 2 := by
  rcases eight h with rfl | rfl | rfl | rfl | rfl | rfl | rfl | rfl <;> rfl
theorem po_len {l : List Int} (h : ¬ poV l = 0) : l.length = 2 := by
  have h1 := pc_po h
  rw [← h1]; exact pcL_len2 (by have := poV_rng l; omega)
def fmT : List Int → List Int
  | [] => []
  | p :: r => [44] ++ pcL p ++ fmT r
def fmL : List Int → List Int
  | [] => []
  | p :: r => pcL p ++ fmT r
theorem fmT_app : ∀ a b : List Int, fmT (a ++ b) = fmT a ++ fmT b
  | [], b => rfl
  | p :: r, b => by show [44] ++ pcL p ++ fmT (r ++ b) = [44] ++ pcL p ++ fmT r ++ fmT b; rw [fmT_app r b, List.append_assoc ([44] ++ pcL p)]
theorem fmL_snoc {a : List Int} {p : Int} (h : 1 ≤ a.length) : fmL (a ++ [p]) = fmL a ++ [44] ++ pcL p := by
  cases a with
  | nil => exact absurd h (by decide)
  | cons x r =>
    show pcL x ++ fmT (r ++ [p]) = pcL x ++ fmT r ++ [44] ++ pcL p
    rw [fmT_app]
    show pcL x ++ (fmT r ++ ([44] ++ pcL p ++ [])) = _
    simp only [List.append_nil, List.append_assoc]
theorem take_snoc {m : List Int} {i : Nat} (h : i < m.length) : List.take (i + 1) m = List.take i m ++ [List.getD m i 0] := by
  rw [List.take_add_one, List.getElem?_eq_getElem h, List.getD_eq_getElem?_getD, List.getElem?_eq_getElem h]; rfl
def FB (m : List Int) (i : Nat) (b : List Int) : Prop := b = fmL (List.take i m)
theorem FB.zero (m : List Int) : FB m 0 [] := rfl
theorem FB.one {m b : List Int} (h : 0 < m.length) (hb : b = pcL (List.getD m 0 0)) : FB m (0 + 1) b := by
  unfold FB; rw [take_snoc h, hb]; show _ = pcL _ ++ []; rw [List.append_nil]
theorem FB.step {m b c q : List Int} {i : Nat} (h : FB m i b) (h1 : 1 ≤ i) (hi : i < m.length) (hq : q = pcL (List.getD m i 0)) (hc : c = b ++ [44] ++ q) : FB m (i + 1) c := by
  unfold FB at *
  rw [take_snoc hi, fmL_snoc (by rw [List.length_take]; omega), ← h, ← hq, hc]
theorem FB.fin {m b : List Int} {i : Nat} (h : FB m i b) (hi : m.length ≤ i) : b = fmL m := by
  unfold FB at h; rw [List.take_of_length_le hi] at h; exact h
theorem FB.z {m b : List Int} {i : Nat} (h : FB m i b) (h0 : i = 0) : b = [] := by subst h0; exact h
/-! a text in parts -/
def spC : List Int → List (List Int)
  | [] => [[]]
  | x :: r => if x = 44 then [] :: spC r else match spC r with
    | [] => [[x]]
    | w :: ws => (x :: w) :: ws
theorem spC_ne : ∀ l, spC l ≠ []
  | [] => by simp [spC]
  | x :: r => by
    unfold spC
    split
    · simp
    · split <;> simp
def prF : Nat → List Int → Option (List Int)
  | 0, _ => none
  | n + 1, s => match s with
    | a :: b :: r => if poV [a, b] = 0 then none else match r with
      | [] => some [poV [a, b]]
      | c :: r2 => if c = 44 then (prF n r2).map (poV [a, b] :: ·) else none
    | _ => none
def paF : List (List Int) → Option (List Int)
  | [] => some []
  | w :: ws => if poV w = 0 then none else (paF ws).map (poV w :: ·)
theorem po_1 (a : Int) : poV [a] = 0 := Decidable.byContradiction fun h => by have := po_len h; simp at this
theorem po_nil : poV [] = 0 := by decide
theorem po_3 (a b c : Int) (r : List Int) : poV (a :: b :: c :: r) = 0 := Decidable.byContradiction fun h => by have := po_len h; simp at this
theorem po_ca (b : Int) : poV [44, b] = 0 := Decidable.byContradiction fun h => by
  have h1 := pc_po h
  rcases eight (show 1 ≤ poV [44, b] ∧ poV [44, b] ≤ 8 by have := poV_rng [44, b]; omega) with e | e | e | e | e | e | e | e <;> (rw [e] at h1; revert h1; simp [pcL])
theorem po_cb (a : Int) : poV [a, 44] = 0 := Decidable.byContradiction fun h => by
  have h1 := pc_po h
  rcases eight (show 1 ≤ poV [a, 44] ∧ poV [a, 44] ≤ 8 by have := poV_rng [a, 44]; omega) with e | e | e | e | e | e | e | e <;> (rw [e] at h1; revert h1; simp [pcL])
theorem spC_c (r : List Int) : spC (44 :: r) = [] :: spC r := by rw [spC]; rfl
theorem spC_x {x : Int} (h : ¬ x = 44) (r : List Int) : ∃ w ws, spC r = w :: ws ∧ spC (x :: r) = (x :: w) :: ws := by
  cases e : spC r with
  | nil => exact absurd e (spC_ne r)
  | cons w ws => exact ⟨w, ws, rfl, by rw [spC, if_neg h, e]⟩
theorem pa_pr : ∀ (n : Nat) (s : List Int), s.length < n → paF (spC s) = prF n s
  | 0, s, h => absurd h (Nat.not_lt_zero _)
  | n + 1, [], _ => by
    show (if poV [] = 0 then none else _) = none
    rw [if_pos po_nil]
  | n + 1, [a], _ => by
    show paF (spC [a]) = none
    by_cases ha : a = 44
    · subst ha; rw [spC_c]; show (if poV [] = 0 then none else _) = none; rw [if_pos po_nil]
    · obtain ⟨w, ws, e1, e2⟩ := spC_x ha []
      have e3 : w = [] := by
        have : spC [] = [[]] := rfl
        rw [this] at e1; simp at e1; exact e1.1
      rw [e2, e3]; show (if poV [a] = 0 then none else _) = none; rw [if_pos (po_1 a)]
  | n + 1, a :: b :: r, h => by
    show _ = (if poV [a, b] = 0 then none else match r with
      | [] => some [poV [a, b]]
      | c :: r2 => if c = 44 then (prF n r2).map (poV [a, b] :: ·) else none)
    by_cases ha : a = 44
    · subst ha
      rw [spC_c, if_pos (po_ca b)]; show (if poV [] = 0 then none else _) = none; rw [if_pos po_nil]
    · obtain ⟨w, ws, e1, e2⟩ := spC_x ha (b :: r)
      rw [e2]
      by_cases hb : b = 44
      · subst hb
        rw [spC_c] at e1
        have e3 : w = [] := by simp at e1; exact e1.1
        rw [e3, if_pos (po_cb a)]; show (if poV [a] = 0 then none else _) = none; rw [if_pos (po_1 a)]
      · obtain ⟨w2, ws2, e3, e4⟩ := spC_x hb r
        rw [e4] at e1
        simp only [List.cons.injEq] at e1
        obtain ⟨rfl, rfl⟩ := e1
        cases r with
        | nil =>
          have e5 : spC [] = [[]] := rfl
          rw [e5] at e3
          simp only [List.cons.injEq] at e3
          obtain ⟨rfl, rfl⟩ := e3
          show (if poV [a, b] = 0 then none else some [poV [a, b]]) = _
          rfl
        | cons c r2 =>
          by_cases hc : c = 44
          · subst hc
            rw [spC_c] at e3
            simp only [List.cons.injEq] at e3
            obtain ⟨rfl, rfl⟩ := e3
            show (if poV [a, b] = 0 then none else (paF (spC r2)).map (poV [a, b] :: ·)) = _
            rw [pa_pr n r2 (by simp at h; omega)]
            rfl
          · obtain ⟨w3, ws3, e5, e6⟩ := spC_x hc r2
            rw [e6] at e3
            simp only [List.cons.injEq] at e3
            obtain ⟨rfl, rfl⟩ := e3
            show (if poV (a :: b :: c :: w3) = 0 then none else _) = _
            rw [if_pos (po_3 a b c w3)]
            show none = (if poV [a, b] = 0 then none else if c = 44 then _ else none)
            rw [if_neg hc]
            split <;> rfl
def rdP (s : List Int) : Option (List Int) := paF (spC s)
/-! places -/
def idxK (l : List Int) (v : Int) : Nat → Int
  | 0 => -1
  | k + 1 => if 0 ≤ idxK l v k then idxK l v k else if List.getD l k 0 = v then (k : Int) else -1
theorem idxK_miss {l : List Int} {v : Int} {k : Nat} (h : idxK l v k = -1) (h2 : ¬ List.getD l k 0 = v) : idxK l v (k + 1) = -1 := by
  show (if 0 ≤ idxK l v k then _ else _) = _
  rw [if_neg (by omega), if_neg h2]
theorem idxK_hit {l : List Int} {v : Int} {k : Nat} (h : idxK l v k = -1) (h2 : List.getD l k 0 = v) : ∀ n, k < n → idxK l v n = (k : Int)
  | n + 1, hn => by
    by_cases hk : k = n
    · subst hk
      show (if 0 ≤ idxK l v k then _ else _) = _
      rw [if_neg (by omega), if_pos h2]
    · have := idxK_hit h h2 n (by omega)
      show (if 0 ≤ idxK l v n then _ else _) = _
      rw [if_pos (by omega)]; exact this
theorem idxK_rng (l : List Int) (v : Int) : ∀ n, -1 ≤ idxK l v n ∧ idxK l v n < (n : Int)
  | 0 => by show (-1 : Int) ≤ -1 ∧ (-1 : Int) < 0; omega
  | k + 1 => by
    have := idxK_rng l v k
    show -1 ≤ (if 0 ≤ idxK l v k then _ else _) ∧ (if 0 ≤ idxK l v k then _ else _) < _
    split
    · omega
    · split <;> omega
theorem mem_at {l : List Int} {v : Int} : v ∈ l ↔ ∃ j, j < l.length ∧ List.getD l j 0 = v := by
  constructor
  · intro h
    obtain ⟨j, hj, e⟩ := List.mem_iff_getElem.1 h
    exact ⟨j, hj, by rw [List.getD_eq_getElem?_getD, List.getElem?_eq_getElem hj]; exact e⟩
  · rintro ⟨j, hj, e⟩
    rw [List.getD_eq_getElem?_getD, List.getElem?_eq_getElem hj] at e
    have e : l[j] = v := e
    rw [← e]; exact List.getElem_mem hj
/-! valid maps -/
def chE (l : List Int) (n j : Nat) : Bool := decide (1 ≤ List.getD l j 0 ∧ List.getD l j 0 ≤ 8 ∧ idxK l (List.getD l j 0) n = (j : Int))
def chB (l : List Int) (n : Nat) : Bool := decide (1 ≤ n ∧ n ≤ 8) && (List.range n).all (chE l n)
theorem chB_t {l : List Int} {n : Nat} (h1 : 1 ≤ n ∧ n ≤ 8) (h : ∀ j, j < n → chE l n j = true) : chB l n = true :=
  Bool.and_eq_true_iff.2 ⟨decide_eq_true h1, List.all_eq_true.2 fun j hj => h j (List.mem_range.1 hj)⟩
theorem chB_f {l : List Int} {n : Nat} (h1 : ¬ (1 ≤ n ∧ n ≤ 8)) : chB l n = false := by unfold chB; rw [decide_eq_false h1]; rfl
theorem chB_s {l : List Int} {n k : Nat} (hk : k < n) (h : chE l n k = false) : chB l n = false := by
  cases hb : chB l n with
  | false => rfl
  | true =>
    have := List.all_eq_true.1 (Bool.and_eq_true_iff.1 hb).2 k (List.mem_range.2 hk)
    rw [h] at this; cases this
/-! the code: after so many pieces -/
def PA (L : List (List Int)) (i : Nat) (m : List Int) : Prop := paF (List.take i L) = some m
theorem paF_app : ∀ (a b : List (List Int)), paF (a ++ b) = (paF a).bind fun x => (paF b).map (x ++ ·)
  | [], b => by show paF b = (paF b).map _; cases paF b <;> rfl
  | w :: a, b => by
    show (if poV w = 0 then none else (paF (a ++ b)).map (poV w :: ·)) = (if poV w = 0 then none else (paF a).map (poV w :: ·)).bind _
    by_cases h : poV w = 0
    · rw [if_pos h, if_pos h]; rfl
    · rw [if_neg h, if_neg h, paF_app a b]
      cases paF a with
      | none => rfl
      | some x => cases paF b <;> rfl
theorem PA.zero (L : List (List Int)) : PA L 0 [] := rfl
theorem take_snocL {m : List (List Int)} {i : Nat} (h : i < m.length) : List.take (i + 1) m = List.take i m ++ [List.getD m i []] := by
  rw [List.take_add_one, List.getElem?_eq_getElem h, List.getD_eq_getElem?_getD, List.getElem?_eq_getElem h]; rfl
theorem PA.step {L : List (List Int)} {i : Nat} {m : List Int} {p : Int} (h : PA L i m) (hi : i < L.length) (hp : ¬ poV (List.getD L i []) = 0) (hq : p = poV (List.getD L i [])) : PA L (i + 1) (m ++ [p]) := by
  unfold PA at *
  rw [take_snocL hi, paF_app, h]
  show (if _ then none else _ : Option (List Int)).map _ = _
  rw [if_neg hp, hq]; rfl
theorem PA.fin {L : List (List Int)} {i : Nat} {m : List Int} (h : PA L i m) (hi : L.length ≤ i) : paF L = some m := by
  unfold PA at h; rw [List.take_of_length_le hi] at h; exact h
/-! the reference: at a place -/
def PR (s : List Int) (a : Nat) (m : List Int) : Prop := ∀ n, s.length < n → prF n s = (prF (n - m.length) (List.drop a s)).map (m ++ ·)
theorem PR.zero (s : List Int) : PR s 0 [] := fun n h => by
  show prF n s = (prF n s).map _
  cases prF n s <;> rfl
theorem two_at {s : List Int} {a : Nat} (h : a + 2 ≤ s.length) : List.drop a s = List.getD s a 0 :: List.getD s (a + 1) 0 :: List.drop (a + 2) s := by
  rw [List.drop_eq_getElem_cons (by omega), List.drop_eq_getElem_cons (show a + 1 < s.length by omega)]
  rw [List.getD_eq_getElem?_getD, List.getElem?_eq_getElem (by omega), List.getD_eq_getElem?_getD, List.getElem?_eq_getElem (by omega)]; rfl
theorem take_two {s : List Int} {a : Nat} (h : a + 2 ≤ s.length) : List.take 2 (List.drop a s) = [List.getD s a 0, List.getD s (a + 1) 0] := by
  rw [two_at h]; rfl
theorem prF_two {n a : Nat} {s : List Int} (h : a + 2 ≤ s.length) : prF (n + 1) (List.drop a s) = if poV (List.take 2 (List.drop a s)) = 0 then none else match List.drop (a + 2) s with
      | [] => some [poV (List.take 2 (List.drop a s))]
      | c :: r2 => if c = 44 then (prF n r2).map (poV (List.take 2 (List.drop a s)) :: ·) else none := by
  rw [take_two h, two_at h]; rfl
theorem PR.last {s : List Int} {a : Nat} {m : List Int} {p : Int} (h : PR s a m) (hm : 3 * m.length = a) (h2 : s.length = a + 2) (hp : ¬ poV (List.take 2 (List.drop a s)) = 0) (hq : p = poV (List.take 2 (List.drop a s))) : rdP s = some (m ++ [p]) := by
  unfold rdP
  rw [pa_pr _ _ (Nat.lt_succ_self _), h _ (Nat.lt_succ_self _)]
  obtain ⟨n, hn⟩ : ∃ n, s.length + 1 - m.length = n + 1 := ⟨s.length - m.length, by omega⟩
  rw [hn, prF_two (by omega), if_neg hp, List.drop_eq_nil_of_le (by omega), hq]; rfl
theorem PR.step {s : List Int} {a : Nat} {m : List Int} {p : Int} (h : PR s a m) (hm : 3 * m.length = a) (h2 : a + 2 < s.length) (hc : List.getD s (a + 2) 0 = 44) (hp : ¬ poV (List.take 2 (List.drop a s)) = 0) (hq : p = poV (List.take 2 (List.drop a s))) : PR s (a + 3) (m ++ [p]) := fun n hn => by
  rw [h n hn]
  obtain ⟨k, hk⟩ : ∃ k, n - m.length = k + 1 := ⟨n - m.length - 1, by omega⟩
  rw [hk, prF_two (by omega), if_neg hp, List.drop_eq_getElem_cons h2]
  rw [List.getD_eq_getElem?_getD, List.getElem?_eq_getElem h2] at hc
  have hc : s[a + 2] = 44 := hc
  show (if _ then _ else none : Option (List Int)).map _ = _
  rw [if_pos hc, hq, List.length_append, show n - (m.length + [poV (List.take 2 (List.drop a s))].length) = k by simp only [List.length_cons, List.length_nil]; omega, show a + 2 + 1 = a + 3 by omega]
  cases prF k (List.drop (a + 3) s) with
  | none => rfl
  | some x =>
    show some (m ++ (poV (List.take 2 (List.drop a s)) :: x)) = some (m ++ [poV (List.take 2 (List.drop a s))] ++ x)
    rw [List.append_assoc]; rfl
end Go.Proofs.YtcfmjpnffembpaaGreat
