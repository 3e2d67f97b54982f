/- Names of positions, texts of maps. No statement is proved here. -/
import Derived.Test.YtcmldnahohmieaaDoorLBy
namespace Go.Proofs.YtcmldnahohmieaaDoor
open Go.ChangeShapes Go.WideShapes Go.ChangeAt Go.RowKit
set_option linter.unusedVariables false
set_option linter.unusedSimpArgs false

def stD (xs : List (List Int)) : List D := xs.map fun l => D.lit (.string (strOfNums l))
theorem stD_len (xs : List (List Int)) : (stD xs).length = xs.length := by unfold stD; simp
theorem stD_cat (xs : List (List Int)) (l : List Int) : stD xs ++ [D.lit (.string (strOfNums l))] = stD (xs ++ [l]) := by unfold stD; simp
theorem stD_app (xs ys : List (List Int)) : stD xs ++ stD ys = stD (xs ++ ys) := by unfold stD; simp
theorem stD_at (xs : List (List Int)) (i : Nat) (h : i < xs.length) : (List.drop i (stD xs))[0]? = some (D.lit (.string (strOfNums (List.getD xs i [])))) := by
  unfold stD
  rw [List.getElem?_drop, Nat.add_zero, List.getElem?_map, List.getElem?_eq_getElem h, List.getD_eq_getElem?_getD, List.getElem?_eq_getElem h]; rfl
theorem stD_take (xs : List (List Int)) (n : Nat) : List.take (n * 1) (List.drop (0 * 1) (stD xs)) = stD (List.take n xs) := by unfold stD; simp [List.map_take]

/-! names of positions, texts of maps -/
def poV (l : List Int) : Int :=
  if l = [70, 76] then 1 else if l = [70, 82] then 2 else if l = [70, 67] then 3 else if l = [76, 70] then 4 else if l = [66, 76] then 5 else if l = [66, 82] then 6 else if l = [83, 76] then 7 else if l = [83, 82] then 8 else 0
def pcL (p : Int) : List Int :=
  if p = 1 then [70, 76] else if p = 2 then [70, 82] else if p = 3 then [70, 67] else if p = 4 then [76, 70] else if p = 5 then [66, 76] else if p = 6 then [66, 82] else if p = 7 then [83, 76] else if p = 8 then [83, 82] else [63]
theorem poV_rng (l : List Int) : 0 ≤ poV l ∧ poV l ≤ 8 := by
  unfold poV; (repeat' split) <;> omega
theorem eight {p : Int} (h : 1 ≤ p ∧ p ≤ 8) : p = 1 ∨ p = 2 ∨ p = 3 ∨ p = 4 ∨ p = 5 ∨ p = 6 ∨ p = 7 ∨ p = 8 := by omega
theorem po_pc {p : Int} (h : 1 ≤ p ∧ p ≤ 8) : poV (pcL p) = p := by
  rcases eight h with rfl | rfl | rfl | rfl | rfl | rfl | rfl | rfl <;> decide
theorem pc_po {l : List Int} (h : ¬ poV l = 0) : pcL (poV l) = l := by
  by_cases h1 : l = [70, 76]
  · subst h1; decide
  by_cases h2 : l = [70, 82]
  · subst h2; decide
  by_cases h3 : l = [70, 67]
  · subst h3; decide
  by_cases h4 : l = [76, 70]
  · subst h4; decide
  by_cases h5 : l = [66, 76]
  · subst h5; decide
  by_cases h6 : l = [66, 82]
  · subst h6; decide
  by_cases h7 : l = [83, 76]
  · subst h7; decide
  by_cases h8 : l = [83, 82]
  · subst h8; decide
  exact absurd (by unfold poV; rw [if_neg h1, if_neg h2, if_neg h3, if_neg h4, if_neg h5, if_neg h6, if_neg h7, if_neg h8]) h
theorem po_y {l : List Int} {k : Int} (hk : 1 ≤ k ∧ k ≤ 8) (h : poV l = k) : l = pcL k := by
  have := pc_po (l := l) (by omega)
  rw [h] at this; exact this.symm
theorem po_n {l : List Int} {k : Int} (hk : 1 ≤ k ∧ k ≤ 8) (h : ¬ poV l = k) : ¬ l = pcL k := fun e => h (by rw [e]; exact po_pc hk)
theorem pcL_len2 {p : Int} (h : 1 ≤ p ∧ p ≤ 8) : (pcL p).length = 2 := by
  rcases eight h with rfl | rfl | rfl | rfl | rfl | rfl | rfl | rfl <;> rfl
theorem pcL_q {p : Int} (h : ¬ (1 ≤ p ∧ p ≤ 8)) : pcL p = [63] := by
  unfold pcL; rw [if_neg (by omega), if_neg (by omega), if_neg (by omega), if_neg (by omega), if_neg (by omega), if_neg (by omega), if_neg (by omega), if_neg (by omega)]
theorem pcL_len (p : Int) : 1 ≤ (pcL p).length ∧ (pcL p).length ≤ 2 := by
  by_cases h : 1 ≤ p ∧ p ≤ 8
  · rw [pcL_len2 h]; omega
  · rw [pcL_q h]; decide
theorem pcL_byt (p : Int) : Byt (pcL p) := by
  by_cases h : 1 ≤ p ∧ p ≤ 8
  · rcases eight h with rfl | rfl | rfl | rfl | rfl | rfl | rfl | rfl <;> (intro x hx; simp [pcL] at hx; omega)
  · rw [pcL_q h]; exact (by decide : ∀ x ∈ ([63] : List Int), (0 : Int) ≤ x ∧ x ≤ 255)
theorem po_len {l : List Int} (h : ¬ poV l = 0) : l.length = 2 := by
  have h1 := pc_po h
  rw [← h1]; exact pcL_len2 (by have := poV_rng l; omega)
def nmT : List (List Int) := [[], [70, 76], [70, 82], [70, 67], [76, 70], [66, 76], [66, 82], [83, 76], [83, 82]]
def rnT : List Int := [70, 76, 70, 82, 70, 67, 76, 70, 66, 76, 66, 82, 83, 76, 83, 82]
theorem nm_at {p : Int} (h : 1 ≤ p ∧ p ≤ 8) {n : Nat} (hn : p = (n : Int)) : List.getD nmT n [] = pcL p := by
  rcases eight h with rfl | rfl | rfl | rfl | rfl | rfl | rfl | rfl
  · obtain rfl : n = 1 := by omega
    rfl
  · obtain rfl : n = 2 := by omega
    rfl
  · obtain rfl : n = 3 := by omega
    rfl
  · obtain rfl : n = 4 := by omega
    rfl
  · obtain rfl : n = 5 := by omega
    rfl
  · obtain rfl : n = 6 := by omega
    rfl
  · obtain rfl : n = 7 := by omega
    rfl
  · obtain rfl : n = 8 := by omega
    rfl
theorem rn_at {p : Int} (h : 1 ≤ p ∧ p ≤ 8) {a b : Nat} (ha : 2 * p - 2 = (a : Int)) (hb : b = 2) : List.take b (List.drop a ([70, 76, 70, 82, 70, 67, 76, 70, 66, 76, 66, 82, 83, 76, 83, 82] : List Int)) = pcL p := by
  subst hb
  rcases eight h with rfl | rfl | rfl | rfl | rfl | rfl | rfl | rfl
  · obtain rfl : a = 0 := by omega
    rfl
  · obtain rfl : a = 2 := by omega
    rfl
  · obtain rfl : a = 4 := by omega
    rfl
  · obtain rfl : a = 6 := by omega
    rfl
  · obtain rfl : a = 8 := by omega
    rfl
  · obtain rfl : a = 10 := by omega
    rfl
  · obtain rfl : a = 12 := by omega
    rfl
  · obtain rfl : a = 14 := by omega
    rfl
theorem str_po_y {l q : List Int} {k : Int} (hk : 1 ≤ k ∧ k ≤ 8) (hq : q = pcL k) (h : poV l = k) : (ByteArray.toList (strOfNums q) == ByteArray.toList (strOfNums l)) = true := str_y (by rw [hq]; exact (po_y hk h).symm)
theorem str_po_n {l q : List Int} {k : Int} (hk : 1 ≤ k ∧ k ≤ 8) (hy : Byt l) (hq : q = pcL k) (h : ¬ poV l = k) : (ByteArray.toList (strOfNums q) == ByteArray.toList (strOfNums l)) = false := by
  refine str_n (by rw [hq]; exact pcL_byt k) hy ?_
  rw [hq]; exact fun e => po_n hk h e.symm
def fmT : List Int → List Int
  | [] => []
  | p :: r => [44] ++ pcL p ++ fmT r
def fmL : List Int → List Int
  | [] => []
  | p :: r => pcL p ++ fmT r
theorem fmT_app : ∀ a b : List Int, fmT (a ++ b) = fmT a ++ fmT b
  | [], b => rfl
  | p :: r, b => by show [44] ++ pcL p ++ fmT (r ++ b) = [44] ++ pcL p ++ fmT r ++ fmT b; rw [fmT_app r b, List.append_assoc ([44] ++ pcL p)]
theorem fmL_snoc {a : List Int} {p : Int} (h : 1 ≤ a.length) : fmL (a ++ [p]) = fmL a ++ [44] ++ pcL p := by
  cases a with
  | nil => exact absurd h (by decide)
  | cons x r =>
    show pcL x ++ fmT (r ++ [p]) = pcL x ++ fmT r ++ [44] ++ pcL p
    rw [fmT_app]
    show pcL x ++ (fmT r ++ ([44] ++ pcL p ++ [])) = _
    simp only [List.append_nil, List.append_assoc]
theorem fmT_byt : ∀ m : List Int, Byt (fmT m)
  | [] => Byt.nil
  | p :: r => ((Byt.cons (by omega) Byt.nil).app (pcL_byt p)).app (fmT_byt r)
theorem fmL_byt (m : List Int) : Byt (fmL m) := by
  cases m with
  | nil => exact Byt.nil
  | cons p r => exact (pcL_byt p).app (fmT_byt r)
theorem fmT_len : ∀ m : List Int, (fmT m).length ≤ 3 * m.length
  | [] => Nat.le_refl _
  | p :: r => by
    have h1 := fmT_len r
    have h2 := pcL_len p
    show ([44] ++ pcL p ++ fmT r).length ≤ _
    simp only [List.length_append, List.length_cons, List.length_nil]; omega
theorem fmL_len (m : List Int) : (fmL m).length ≤ 3 * m.length := by
  cases m with
  | nil => exact Nat.le_refl _
  | cons p r =>
    have h1 := fmT_len r
    have h2 := pcL_len p
    show (pcL p ++ fmT r).length ≤ _
    simp only [List.length_append, List.length_cons]; omega
theorem take_snoc {m : List Int} {i : Nat} (h : i < m.length) : List.take (i + 1) m = List.take i m ++ [List.getD m i 0] := by
  rw [List.take_add_one, List.getElem?_eq_getElem h, List.getD_eq_getElem?_getD, List.getElem?_eq_getElem h]; rfl
/-- after so many positions -/
def FB (m : List Int) (i : Nat) (b : List Int) : Prop := b = fmL (List.take i m)
theorem FB.zero (m : List Int) : FB m 0 [] := rfl
theorem FB.one {m b : List Int} (h : 0 < m.length) (hb : b = pcL (List.getD m 0 0)) : FB m (0 + 1) b := by
  unfold FB; rw [take_snoc h, hb]; show _ = pcL _ ++ []; rw [List.append_nil]
theorem FB.one' {m b : List Int} {i : Nat} (h0 : i = 0) (h : 0 < m.length) (hb : b = pcL (List.getD m i 0)) : FB m (i + 1) b := by subst h0; exact FB.one h hb
theorem FB.step {m b c q : List Int} {i : Nat} (h : FB m i b) (h1 : 1 ≤ i) (hi : i < m.length) (hq : q = pcL (List.getD m i 0)) (hc : c = b ++ [44] ++ q) : FB m (i + 1) c := by
  unfold FB at *
  rw [take_snoc hi, fmL_snoc (by rw [List.length_take]; omega), ← h, ← hq, hc]
theorem FB.fin {m b : List Int} {i : Nat} (h : FB m i b) (hi : m.length ≤ i) : b = fmL m := by
  unfold FB at h; rw [List.take_of_length_le hi] at h; exact h
theorem FB.z {m b : List Int} {i : Nat} (h : FB m i b) (h0 : i = 0) : b = [] := by subst h0; exact h
theorem rn_len {a b : Nat} (ha : a ≤ 14) (hb : b = 2) : (List.take b (List.drop a ([70, 76, 70, 82, 70, 67, 76, 70, 66, 76, 66, 82, 83, 76, 83, 82] : List Int))).length = 2 := by
  subst hb; rw [List.length_take, List.length_drop]; simp only [List.length_cons, List.length_nil]; omega
/-! a text in parts -/
def spC : List Int → List (List Int)
  | [] => [[]]
  | x :: r => if x = 44 then [] :: spC r else match spC r with
    | [] => [[x]]
    | w :: ws => (x :: w) :: ws
theorem spC_ne : ∀ l, spC l ≠ []
  | [] => by simp [spC]
  | x :: r => by
    unfold spC
    split
    · simp
    · split <;> simp
theorem spC_byt : ∀ {l : List Int}, Byt l → BytL (spC l)
  | [], _ => fun w hw => by rw [List.mem_singleton.1 hw]; exact Byt.nil
  | x :: r, h => by
    have hr : Byt r := fun y hy => h y (List.mem_cons_of_mem _ hy)
    have hx := h x (List.mem_cons_self ..)
    have ih := spC_byt hr
    unfold spC
    split
    · intro w hw
      rcases List.mem_cons.1 hw with rfl | hw
      · exact Byt.nil
      · exact ih w hw
    · cases e : spC r with
      | nil => intro w hw; rw [List.mem_singleton.1 hw]; exact Byt.cons hx Byt.nil
      | cons w ws =>
        rw [e] at ih
        intro v hv
        rcases List.mem_cons.1 hv with rfl | hv
        · exact Byt.cons hx (ih w (List.mem_cons_self ..))
        · exact ih v (List.mem_cons_of_mem _ hv)
theorem spC_len : ∀ l : List Int, 1 ≤ (spC l).length ∧ (spC l).length ≤ l.length + 1
  | [] => by simp [spC]
  | x :: r => by
    have ih := spC_len r
    unfold spC
    split
    · simp only [List.length_cons]; omega
    · cases e : spC r with
      | nil => simp only [List.length_cons, List.length_nil]; omega
      | cons w ws => rw [e] at ih; simp only [List.length_cons] at ih ⊢; omega
/-- what a text is read as, as the reference reads it -/
def prF : Nat → List Int → Option (List Int)
  | 0, _ => none
  | n + 1, s => match s with
    | a :: b :: r => if poV [a, b] = 0 then none else match r with
      | [] => some [poV [a, b]]
      | c :: r2 => if c = 44 then (prF n r2).map (poV [a, b] :: ·) else none
    | _ => none
/-- as the code reads it -/
def paF : List (List Int) → Option (List Int)
  | [] => some []
  | w :: ws => if poV w = 0 then none else (paF ws).map (poV w :: ·)
theorem po_1 (a : Int) : poV [a] = 0 := Decidable.byContradiction fun h => by have := po_len h; simp at this
theorem po_nil : poV [] = 0 := by decide
theorem po_3 (a b c : Int) (r : List Int) : poV (a :: b :: c :: r) = 0 := Decidable.byContradiction fun h => by have := po_len h; simp at this
theorem po_ca (b : Int) : poV [44, b] = 0 := Decidable.byContradiction fun h => by
  have h1 := pc_po h
  rcases eight (show 1 ≤ poV [44, b] ∧ poV [44, b] ≤ 8 by have := poV_rng [44, b]; omega) with e | e | e | e | e | e | e | e <;> (rw [e] at h1; revert h1; simp [pcL])
theorem po_cb (a : Int) : poV [a, 44] = 0 := Decidable.byContradiction fun h => by
  have h1 := pc_po h
  rcases eight (show 1 ≤ poV [a, 44] ∧ poV [a, 44] ≤ 8 by have := poV_rng [a, 44]; omega) with e | e | e | e | e | e | e | e <;> (rw [e] at h1; revert h1; simp [pcL])
theorem spC_c (r : List Int) : spC (44 :: r) = [] :: spC r := by rw [spC]; rfl
theorem spC_x {x : Int} (h : ¬ x = 44) (r : List Int) : ∃ w ws, spC r = w :: ws ∧ spC (x :: r) = (x :: w) :: ws := by
  cases e : spC r with
  | nil => exact absurd e (spC_ne r)
  | cons w ws => exact ⟨w, ws, rfl, by rw [spC, if_neg h, e]⟩
theorem pa_pr : ∀ (n : Nat) (s : List Int), s.length < n → paF (spC s) = prF n s
  | 0, s, h => absurd h (Nat.not_lt_zero _)
  | n + 1, [], _ => by
    show (if poV [] = 0 then none else _) = none
    rw [if_pos po_nil]
  | n + 1, [a], _ => by
    show paF (spC [a]) = none
    by_cases ha : a = 44
    · subst ha; rw [spC_c]; show (if poV [] = 0 then none else _) = none; rw [if_pos po_nil]
    · obtain ⟨w, ws, e1, e2⟩ := spC_x ha []
      have e3 : w = [] := by
        have : spC [] = [[]] := rfl
        rw [this] at e1; simp at e1; exact e1.1
      rw [e2, e3]; show (if poV [a] = 0 then none else _) = none; rw [if_pos (po_1 a)]
  | n + 1, a :: b :: r, h => by
    show _ = (if poV [a, b] = 0 then none else match r with
      | [] => some [poV [a, b]]
      | c :: r2 => if c = 44 then (prF n r2).map (poV [a, b] :: ·) else none)
    by_cases ha : a = 44
    · subst ha
      rw [spC_c, if_pos (po_ca b)]; show (if poV [] = 0 then none else _) = none; rw [if_pos po_nil]
    · obtain ⟨w, ws, e1, e2⟩ := spC_x ha (b :: r)
      rw [e2]
      by_cases hb : b = 44
      · subst hb
        rw [spC_c] at e1
        have e3 : w = [] := by simp at e1; exact e1.1
        rw [e3, if_pos (po_cb a)]; show (if poV [a] = 0 then none else _) = none; rw [if_pos (po_1 a)]
      · obtain ⟨w2, ws2, e3, e4⟩ := spC_x hb r
        rw [e4] at e1
        simp only [List.cons.injEq] at e1
        obtain ⟨rfl, rfl⟩ := e1
        cases r with
        | nil =>
          have e5 : spC [] = [[]] := rfl
          rw [e5] at e3
          simp only [List.cons.injEq] at e3
          obtain ⟨rfl, rfl⟩ := e3
          show (if poV [a, b] = 0 then none else some [poV [a, b]]) = _
          rfl
        | cons c r2 =>
          by_cases hc : c = 44
          · subst hc
            rw [spC_c] at e3
            simp only [List.cons.injEq] at e3
            obtain ⟨rfl, rfl⟩ := e3
            show (if poV [a, b] = 0 then none else (paF (spC r2)).map (poV [a, b] :: ·)) = _
            rw [pa_pr n r2 (by simp at h; omega)]
            rfl
          · obtain ⟨w3, ws3, e5, e6⟩ := spC_x hc r2
            rw [e6] at e3
            simp only [List.cons.injEq] at e3
            obtain ⟨rfl, rfl⟩ := e3
            show (if poV (a :: b :: c :: w3) = 0 then none else _) = _
            rw [if_pos (po_3 a b c w3)]
            show none = (if poV [a, b] = 0 then none else if c = 44 then _ else none)
            rw [if_neg hc]
            split <;> rfl
def rdP (s : List Int) : Option (List Int) := paF (spC s)
/-- what was read gives its text -/
theorem pr_fm : ∀ (n : Nat) (s m : List Int), prF n s = some m → fmL m = s ∧ 1 ≤ m.length ∧ ∀ x ∈ m, 1 ≤ x ∧ x ≤ 8
  | 0, _, _, h => by cases h
  | n + 1, [], _, h => by cases h
  | n + 1, [_], _, h => by cases h
  | n + 1, a :: b :: r, m, h => by
    have h' : (if poV [a, b] = 0 then none else match r with
      | [] => some [poV [a, b]]
      | c :: r2 => if c = 44 then (prF n r2).map (poV [a, b] :: ·) else none) = some m := h
    by_cases hp : poV [a, b] = 0
    · rw [if_pos hp] at h'; cases h'
    · rw [if_neg hp] at h'
      have hr := poV_rng [a, b]
      cases r with
      | nil =>
        have h' : some [poV [a, b]] = some m := h'
        cases h'
        refine ⟨?_, Nat.le_refl _, fun x hx => ?_⟩
        · show pcL _ ++ [] = _; rw [List.append_nil, pc_po hp]
        · rw [List.mem_singleton.1 hx]; omega
      | cons c r2 =>
        have h' : (if c = 44 then (prF n r2).map (poV [a, b] :: ·) else none) = some m := h'
        by_cases hc : c = 44
        · subst hc
          rw [if_pos rfl] at h'
          obtain ⟨k, hk, rfl⟩ := Option.map_eq_some_iff.1 h'
          obtain ⟨h1, h2, h3⟩ := pr_fm n r2 k hk
          refine ⟨?_, by simp, fun x hx => ?_⟩
          · show pcL _ ++ fmT k = _
            rw [pc_po hp]
            cases k with
            | nil => exact absurd h2 (by decide)
            | cons y z =>
              have h1 : pcL y ++ fmT z = r2 := h1
              show [a, b] ++ ([44] ++ pcL y ++ fmT z) = _
              rw [List.append_assoc, h1]; rfl
          · rcases List.mem_cons.1 hx with rfl | hx
            · omega
            · exact h3 x hx
        · rw [if_neg hc] at h'; cases h'
theorem rd_fm {s m : List Int} (h : rdP s = some m) : fmL m = s ∧ 1 ≤ m.length ∧ ∀ x ∈ m, 1 ≤ x ∧ x ≤ 8 := by
  unfold rdP at h
  rw [pa_pr (s.length + 1) s (Nat.lt_succ_self _)] at h
  exact pr_fm _ s m h
theorem pr_of_fm : ∀ (n : Nat) (m : List Int), m.length < n → 1 ≤ m.length → (∀ x ∈ m, 1 ≤ x ∧ x ≤ 8) → prF n (fmL m) = some m
  | 0, _, h, _, _ => absurd h (Nat.not_lt_zero _)
  | n + 1, [], _, h, _ => absurd h (by decide)
  | n + 1, p :: r, h, _, h3 => by
    have hp := h3 p (List.mem_cons_self ..)
    obtain ⟨a, b, e⟩ : ∃ a b, pcL p = [a, b] := by
      have := pcL_len2 hp
      match pcL p, this with
      | [a, b], _ => exact ⟨a, b, rfl⟩
    have e2 : poV [a, b] = p := by rw [← e]; exact po_pc hp
    show prF (n + 1) (pcL p ++ fmT r) = _
    rw [e]
    show (if poV [a, b] = 0 then none else match fmT r with
      | [] => some [poV [a, b]]
      | c :: r2 => if c = 44 then (prF n r2).map (poV [a, b] :: ·) else none) = _
    rw [e2, if_neg (by omega)]
    cases r with
    | nil => rfl
    | cons q r =>
      have ih := pr_of_fm n (q :: r) (by simp at h ⊢; omega) (by simp) (fun x hx => h3 x (List.mem_cons_of_mem _ hx))
      show (if (44 : Int) = 44 then (prF n (pcL q ++ fmT r)).map (p :: ·) else none) = _
      rw [if_pos rfl]
      have ih : prF n (pcL q ++ fmT r) = some (q :: r) := ih
      rw [ih]; rfl
theorem fm_longer {m : List Int} (h : 1 ≤ m.length) : m.length ≤ (fmL m).length := by
  cases m with
  | nil => exact absurd h (by decide)
  | cons p r =>
    have : ∀ r : List Int, r.length ≤ (fmT r).length := fun r => by
      induction r with
      | nil => exact Nat.le_refl _
      | cons q r ih => show _ ≤ ([44] ++ pcL q ++ fmT r).length; simp only [List.length_append, List.length_cons, List.length_nil]; omega
    have h2 := this r
    have h3 := pcL_len p
    show _ ≤ (pcL p ++ fmT r).length
    simp only [List.length_append, List.length_cons]; omega
theorem pr_more : ∀ (n k : Nat) (s : List Int), s.length < n → s.length < k → prF n s = prF k s := fun n k s h1 h2 => by rw [← pa_pr n s h1, ← pa_pr k s h2]
theorem rd_of {m : List Int} (h1 : 1 ≤ m.length) (h3 : ∀ x ∈ m, 1 ≤ x ∧ x ≤ 8) : rdP (fmL m) = some m := by
  unfold rdP
  rw [pa_pr ((fmL m).length + 1) _ (Nat.lt_succ_self _)]
  exact pr_of_fm _ m (by have := fm_longer h1; omega) h1 h3
/-! places -/
def idxK (l : List Int) (v : Int) : Nat → Int
  | 0 => -1
  | k + 1 => if 0 ≤ idxK l v k then idxK l v k else if List.getD l k 0 = v then (k : Int) else -1
theorem idxK_miss {l : List Int} {v : Int} {k : Nat} (h : idxK l v k = -1) (h2 : ¬ List.getD l k 0 = v) : idxK l v (k + 1) = -1 := by
  show (if 0 ≤ idxK l v k then _ else _) = _
  rw [if_neg (by omega), if_neg h2]
theorem idxK_hit {l : List Int} {v : Int} {k : Nat} (h : idxK l v k = -1) (h2 : List.getD l k 0 = v) : ∀ n, k < n → idxK l v n = (k : Int)
  | n + 1, hn => by
    by_cases hk : k = n
    · subst hk
      show (if 0 ≤ idxK l v k then _ else _) = _
      rw [if_neg (by omega), if_pos h2]
    · have := idxK_hit h h2 n (by omega)
      show (if 0 ≤ idxK l v n then _ else _) = _
      rw [if_pos (by omega)]; exact this
theorem idxK_rng (l : List Int) (v : Int) : ∀ n, -1 ≤ idxK l v n ∧ idxK l v n < (n : Int)
  | 0 => by show (-1 : Int) ≤ -1 ∧ (-1 : Int) < 0; omega
  | k + 1 => by
    have := idxK_rng l v k
    show -1 ≤ (if 0 ≤ idxK l v k then _ else _) ∧ (if 0 ≤ idxK l v k then _ else _) < _
    split
    · omega
    · split <;> omega
theorem idxK_spec (l : List Int) (v : Int) : ∀ n, (idxK l v n = -1 ∧ ∀ j, j < n → ¬ List.getD l j 0 = v) ∨ ∃ k, k < n ∧ idxK l v n = (k : Int) ∧ List.getD l k 0 = v ∧ ∀ j, j < k → ¬ List.getD l j 0 = v
  | 0 => .inl ⟨rfl, fun j hj => absurd hj (Nat.not_lt_zero j)⟩
  | n + 1 => by
    rcases idxK_spec l v n with ⟨h, h2⟩ | ⟨k, h1, h2, h3, h4⟩
    · by_cases h9 : List.getD l n 0 = v
      · exact .inr ⟨n, by omega, idxK_hit h h9 _ (by omega), h9, h2⟩
      · exact .inl ⟨idxK_miss h h9, fun j hj => (Nat.lt_succ_iff_lt_or_eq.1 hj).elim (h2 j) (fun e => by subst e; exact h9)⟩
    · refine .inr ⟨k, by omega, ?_, h3, h4⟩
      show (if 0 ≤ idxK l v n then _ else _) = _
      rw [if_pos (by omega)]; exact h2
theorem mem_at {l : List Int} {v : Int} : v ∈ l ↔ ∃ j, j < l.length ∧ List.getD l j 0 = v := by
  constructor
  · intro h
    obtain ⟨j, hj, e⟩ := List.mem_iff_getElem.1 h
    exact ⟨j, hj, by rw [List.getD_eq_getElem?_getD, List.getElem?_eq_getElem hj]; exact e⟩
  · rintro ⟨j, hj, e⟩
    rw [List.getD_eq_getElem?_getD, List.getElem?_eq_getElem hj] at e
    have e : l[j] = v := e
    rw [← e]; exact List.getElem_mem hj
theorem idx_mem {l : List Int} {v : Int} {n : Nat} (hn : l.length = n) : 0 ≤ idxK l v n ↔ v ∈ l := by
  subst hn
  rw [mem_at]
  rcases idxK_spec l v l.length with ⟨h, h2⟩ | ⟨k, h1, h2, h3, _⟩
  · exact ⟨fun h9 => by omega, fun ⟨j, hj, e⟩ => absurd e (h2 j hj)⟩
  · exact ⟨fun _ => ⟨k, h1, h3⟩, fun _ => by omega⟩
/-! valid maps -/
def chE (l : List Int) (n j : Nat) : Bool := decide (1 ≤ List.getD l j 0 ∧ List.getD l j 0 ≤ 8 ∧ idxK l (List.getD l j 0) n = (j : Int))
def chB (l : List Int) (n : Nat) : Bool := decide (1 ≤ n ∧ n ≤ 8) && (List.range n).all (chE l n)
theorem chB_t {l : List Int} {n : Nat} (h1 : 1 ≤ n ∧ n ≤ 8) (h : ∀ j, j < n → chE l n j = true) : chB l n = true :=
  Bool.and_eq_true_iff.2 ⟨decide_eq_true h1, List.all_eq_true.2 fun j hj => h j (List.mem_range.1 hj)⟩
theorem chB_f {l : List Int} {n : Nat} (h1 : ¬ (1 ≤ n ∧ n ≤ 8)) : chB l n = false := by unfold chB; rw [decide_eq_false h1]; rfl
theorem chB_s {l : List Int} {n k : Nat} (hk : k < n) (h : chE l n k = false) : chB l n = false := by
  cases hb : chB l n with
  | false => rfl
  | true =>
    have := List.all_eq_true.1 (Bool.and_eq_true_iff.1 hb).2 k (List.mem_range.2 hk)
    rw [h] at this; cases this
theorem chB_n {l : List Int} {n : Nat} (h : chB l n = true) : 1 ≤ n ∧ n ≤ 8 := of_decide_eq_true (Bool.and_eq_true_iff.1 h).1
theorem chB_all {l : List Int} {n j : Nat} (h : chB l n = true) (hj : j < n) : 1 ≤ List.getD l j 0 ∧ List.getD l j 0 ≤ 8 ∧ idxK l (List.getD l j 0) n = (j : Int) := of_decide_eq_true (List.all_eq_true.1 (Bool.and_eq_true_iff.1 h).2 j (List.mem_range.2 hj))
theorem nodup_at {l : List Int} : l.Nodup ↔ ∀ i j, i < j → j < l.length → ¬ List.getD l i 0 = List.getD l j 0 := by
  rw [List.nodup_iff_pairwise_ne, List.pairwise_iff_getElem]
  constructor
  · intro h i j hij hj e
    rw [List.getD_eq_getElem?_getD, List.getElem?_eq_getElem (by omega), List.getD_eq_getElem?_getD, List.getElem?_eq_getElem hj] at e
    exact h i j (by omega) hj hij e
  · intro h i j hi hj hij e
    refine h i j hij hj ?_
    rw [List.getD_eq_getElem?_getD, List.getElem?_eq_getElem hi, List.getD_eq_getElem?_getD, List.getElem?_eq_getElem hj]
    exact e
/-- valid: 1 to 8 positions, no two the same -/
theorem chB_iff {l : List Int} {n : Nat} (hn : l.length = n) : chB l n = true ↔ (1 ≤ n ∧ n ≤ 8) ∧ (∀ x ∈ l, 1 ≤ x ∧ x ≤ 8) ∧ l.Nodup := by
  subst hn
  constructor
  · intro h
    refine ⟨chB_n h, fun x hx => ?_, nodup_at.2 fun i j hij hj e => ?_⟩
    · obtain ⟨j, hj, rfl⟩ := mem_at.1 hx
      have := chB_all h hj; omega
    · have h1 := (chB_all h (show i < l.length by omega)).2.2
      have h2 := (chB_all h hj).2.2
      rw [e] at h1; omega
  · rintro ⟨h1, h2, h3⟩
    refine chB_t h1 fun j hj => decide_eq_true ?_
    have hx := h2 _ (mem_at.2 ⟨j, hj, rfl⟩)
    refine ⟨hx.1, hx.2, ?_⟩
    rcases idxK_spec l (List.getD l j 0) l.length with ⟨_, h⟩ | ⟨k, k1, k2, k3, k4⟩
    · exact absurd rfl (h j hj)
    · rw [k2]
      rcases Nat.lt_trichotomy k j with h | h | h
      · exact absurd k3 (nodup_at.1 h3 k j h hj)
      · rw [h]
      · exact absurd rfl (k4 j h)
/-! what a text is parsed as -/
def paE (s : List Int) : Int := match rdP s with
  | none => 5
  | some m => if chB m m.length = true then 0 else 1
def paL (s : List Int) : List Int := match rdP s with
  | none => []
  | some m => if chB m m.length = true then m else []
theorem paE_rng (s : List Int) : 0 ≤ paE s ∧ paE s ≤ 5 := by
  unfold paE; split
  · omega
  · split <;> omega
theorem pa_none {s : List Int} (h : rdP s = none) : paE s = 5 ∧ paL s = [] := by unfold paE paL; rw [h]; exact ⟨rfl, rfl⟩
theorem pa_bad {s m : List Int} {n : Nat} (h : rdP s = some m) (hn : m.length = n) (h2 : chB m n = false) : paE s = 1 ∧ paL s = [] := by
  subst hn
  unfold paE paL; rw [h]
  exact ⟨by show (if _ then _ else _) = _; rw [if_neg (by rw [h2]; exact Bool.false_ne_true)], by show (if _ then _ else _) = _; rw [if_neg (by rw [h2]; exact Bool.false_ne_true)]⟩
theorem pa_good {s m : List Int} {n : Nat} (h : rdP s = some m) (hn : m.length = n) (h2 : chB m n = true) : paE s = 0 ∧ paL s = m := by
  subst hn
  unfold paE paL; rw [h]
  exact ⟨if_pos h2, if_pos h2⟩
theorem pa_cases (s : List Int) : (paE s = 0 ∧ rdP s = some (paL s) ∧ chB (paL s) (paL s).length = true) ∨ (¬ paE s = 0 ∧ paL s = []) := by
  cases h : rdP s with
  | none => obtain ⟨h1, h2⟩ := pa_none h; exact .inr ⟨by omega, h2⟩
  | some m =>
    cases h2 : chB m m.length with
    | true => obtain ⟨h3, h4⟩ := pa_good h rfl h2; exact .inl ⟨h3, by rw [h4], by rw [h4]; exact h2⟩
    | false => obtain ⟨h3, h4⟩ := pa_bad h rfl h2; exact .inr ⟨by omega, h4⟩
theorem paL_len (s : List Int) : (paL s).length ≤ 8 := by
  rcases pa_cases s with ⟨_, _, h⟩ | ⟨_, h⟩
  · exact (chB_n h).2
  · rw [h]; exact Nat.zero_le _
/-- a valid map comes back from its text -/
theorem pa_back {m : List Int} {n : Nat} (hn : m.length = n) (h : chB m n = true) : paE (fmL m) = 0 ∧ paL (fmL m) = m := by
  have h9 := (chB_iff hn).1 h
  subst hn
  exact pa_good (rd_of h9.1.1 h9.2.1) rfl h
/-- a text that was read is the text of what was read -/
theorem pa_text {s : List Int} (h : paE s = 0) : fmL (paL s) = s ∧ chB (paL s) (paL s).length = true := by
  rcases pa_cases s with ⟨_, h1, h2⟩ | ⟨h1, _⟩
  · exact ⟨(rd_fm h1).1, h2⟩
  · exact absurd h h1
/-! the code: after so many pieces -/
def PA (L : List (List Int)) (i : Nat) (m : List Int) : Prop := paF (List.take i L) = some m
theorem paF_app : ∀ (a b : List (List Int)), paF (a ++ b) = (paF a).bind fun x => (paF b).map (x ++ ·)
  | [], b => by show paF b = (paF b).map _; cases paF b <;> rfl
  | w :: a, b => by
    show (if poV w = 0 then none else (paF (a ++ b)).map (poV w :: ·)) = (if poV w = 0 then none else (paF a).map (poV w :: ·)).bind _
    by_cases h : poV w = 0
    · rw [if_pos h, if_pos h]; rfl
    · rw [if_neg h, if_neg h, paF_app a b]
      cases paF a with
      | none => rfl
      | some x => cases paF b <;> rfl
theorem PA.zero (L : List (List Int)) : PA L 0 [] := rfl
theorem take_snocL {m : List (List Int)} {i : Nat} (h : i < m.length) : List.take (i + 1) m = List.take i m ++ [List.getD m i []] := by
  rw [List.take_add_one, List.getElem?_eq_getElem h, List.getD_eq_getElem?_getD, List.getElem?_eq_getElem h]; rfl
theorem PA.step {L : List (List Int)} {i : Nat} {m : List Int} {p : Int} (h : PA L i m) (hi : i < L.length) (hp : ¬ poV (List.getD L i []) = 0) (hq : p = poV (List.getD L i [])) : PA L (i + 1) (m ++ [p]) := by
  unfold PA at *
  rw [take_snocL hi, paF_app, h]
  show (if _ then none else _ : Option (List Int)).map _ = _
  rw [if_neg hp, hq]; rfl
theorem PA.bad {L : List (List Int)} {i : Nat} {m : List Int} (h : PA L i m) (hi : i < L.length) (hp : poV (List.getD L i []) = 0) : paF L = none := by
  rw [← List.take_append_drop (i + 1) L, paF_app, take_snocL hi, paF_app]
  have h : paF (List.take i L) = some m := h
  rw [h]
  show ((if _ then none else _ : Option (List Int)).map _).bind _ = _
  rw [if_pos hp]; rfl
theorem PA.fin {L : List (List Int)} {i : Nat} {m : List Int} (h : PA L i m) (hi : L.length ≤ i) : paF L = some m := by
  unfold PA at h; rw [List.take_of_length_le hi] at h; exact h
/-! the reference: at a place -/
def PR (s : List Int) (a : Nat) (m : List Int) : Prop := ∀ n, s.length < n → prF n s = (prF (n - m.length) (List.drop a s)).map (m ++ ·)
theorem PR.zero (s : List Int) : PR s 0 [] := fun n h => by
  show prF n s = (prF n s).map _
  cases prF n s <;> rfl
theorem two_at {s : List Int} {a : Nat} (h : a + 2 ≤ s.length) : List.drop a s = List.getD s a 0 :: List.getD s (a + 1) 0 :: List.drop (a + 2) s := by
  rw [List.drop_eq_getElem_cons (by omega), List.drop_eq_getElem_cons (show a + 1 < s.length by omega)]
  rw [List.getD_eq_getElem?_getD, List.getElem?_eq_getElem (by omega), List.getD_eq_getElem?_getD, List.getElem?_eq_getElem (by omega)]; rfl
theorem take_two {s : List Int} {a : Nat} (h : a + 2 ≤ s.length) : List.take 2 (List.drop a s) = [List.getD s a 0, List.getD s (a + 1) 0] := by
  rw [two_at h]; rfl
theorem prF_z {s : List Int} (h : s.length < 2) : ∀ n, prF n s = none
  | 0 => rfl
  | n + 1 => by
    match s, h with
    | [], _ => rfl
    | [_], _ => rfl
theorem PR.short {s : List Int} {a : Nat} {m : List Int} (h : PR s a m) (h2 : s.length < a + 2) : rdP s = none := by
  unfold rdP
  rw [pa_pr _ _ (Nat.lt_succ_self _), h _ (Nat.lt_succ_self _), prF_z (by rw [List.length_drop]; omega)]; rfl
theorem prF_two {n a : Nat} {s : List Int} (h : a + 2 ≤ s.length) : prF (n + 1) (List.drop a s) = if poV (List.take 2 (List.drop a s)) = 0 then none else match List.drop (a + 2) s with
      | [] => some [poV (List.take 2 (List.drop a s))]
      | c :: r2 => if c = 44 then (prF n r2).map (poV (List.take 2 (List.drop a s)) :: ·) else none := by
  rw [take_two h, two_at h]; rfl
theorem PR.unknown {s : List Int} {a : Nat} {m : List Int} (h : PR s a m) (h2 : a + 2 ≤ s.length) (hp : poV (List.take 2 (List.drop a s)) = 0) : rdP s = none := by
  unfold rdP
  rw [pa_pr _ _ (Nat.lt_succ_self _), h _ (Nat.lt_succ_self _)]
  cases s.length + 1 - m.length with
  | zero => rfl
  | succ n => rw [prF_two h2, if_pos hp]; rfl
theorem PR.last {s : List Int} {a : Nat} {m : List Int} {p : Int} (h : PR s a m) (hm : 3 * m.length = a) (h2 : s.length = a + 2) (hp : ¬ poV (List.take 2 (List.drop a s)) = 0) (hq : p = poV (List.take 2 (List.drop a s))) : rdP s = some (m ++ [p]) := by
  unfold rdP
  rw [pa_pr _ _ (Nat.lt_succ_self _), h _ (Nat.lt_succ_self _)]
  obtain ⟨n, hn⟩ : ∃ n, s.length + 1 - m.length = n + 1 := ⟨s.length - m.length, by omega⟩
  rw [hn, prF_two (by omega), if_neg hp, List.drop_eq_nil_of_le (by omega), hq]; rfl
theorem PR.comma {s : List Int} {a : Nat} {m : List Int} (h : PR s a m) (h2 : a + 2 < s.length) (hp : ¬ List.getD s (a + 2) 0 = 44) : rdP s = none := by
  unfold rdP
  rw [pa_pr _ _ (Nat.lt_succ_self _), h _ (Nat.lt_succ_self _)]
  cases s.length + 1 - m.length with
  | zero => rfl
  | succ n =>
    rw [prF_two (by omega), List.drop_eq_getElem_cons h2]
    rw [List.getD_eq_getElem?_getD, List.getElem?_eq_getElem h2] at hp
    have hp : ¬ s[a + 2] = 44 := hp
    show (if _ then none else if _ then _ else none : Option (List Int)).map _ = _
    rw [if_neg hp]
    split <;> rfl
theorem PR.step {s : List Int} {a : Nat} {m : List Int} {p : Int} (h : PR s a m) (hm : 3 * m.length = a) (h2 : a + 2 < s.length) (hc : List.getD s (a + 2) 0 = 44) (hp : ¬ poV (List.take 2 (List.drop a s)) = 0) (hq : p = poV (List.take 2 (List.drop a s))) : PR s (a + 3) (m ++ [p]) := fun n hn => by
  rw [h n hn]
  obtain ⟨k, hk⟩ : ∃ k, n - m.length = k + 1 := ⟨n - m.length - 1, by omega⟩
  rw [hk, prF_two (by omega), if_neg hp, List.drop_eq_getElem_cons h2]
  rw [List.getD_eq_getElem?_getD, List.getElem?_eq_getElem h2] at hc
  have hc : s[a + 2] = 44 := hc
  show (if _ then _ else none : Option (List Int)).map _ = _
  rw [if_pos hc, hq, List.length_append, show n - (m.length + [poV (List.take 2 (List.drop a s))].length) = k by simp only [List.length_cons, List.length_nil]; omega, show a + 2 + 1 = a + 3 by omega]
  cases prF k (List.drop (a + 3) s) with
  | none => rfl
  | some x =>
    show some (m ++ (poV (List.take 2 (List.drop a s)) :: x)) = some (m ++ [poV (List.take 2 (List.drop a s))] ++ x)
    rw [List.append_assoc]; rfl

end Go.Proofs.YtcmldnahohmieaaDoor
