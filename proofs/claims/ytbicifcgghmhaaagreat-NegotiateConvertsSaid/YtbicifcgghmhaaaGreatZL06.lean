/- Merged texts. -/
import Derived.Test.YtbicifcgghmhaaaGreatZLBy
namespace Go.Proofs.YtbicifcgghmhaaaGreat
open Go.ChangeShapes Go.WideShapes Go.ChangeAt Go.RowKit
set_option linter.unusedVariables false
set_option linter.unusedSimpArgs false
def stD (xs : List (List Int)) : List D := xs.map fun l => D.lit (.string (strOfNums l))
theorem fZ (xs : List (List Int)) : (stD xs).length = xs.length := by unfold stD; simp
/-! names of positions, texts of maps -/
def bQ (l : List Int) : Int :=
  if l = [70, 76] then 1 else if l = [70, 82] then 2 else if l = [70, 67] then 3 else if l = [76, 70] then 4 else if l = [66, 76] then 5 else if l = [66, 82] then 6 else if l = [83, 76] then 7 else if l = [83, 82] then 8 else 0
def wF (p : Int) : List Int :=
  if p = 1 then [70, 76] else if p = 2 then [70, 82] else if p = 3 then [70, 67] else if p = 4 then [76, 70] else if p = 5 then [66, 76] else if p = 6 then [66, 82] else if p = 7 then [83, 76] else if p = 8 then [83, 82] else [63]
theorem sF (l : List Int) : 0 ≤ bQ l ∧ bQ l ≤ 8 := by
  unfold bQ; (repeat' split) <;> omega
theorem k9p {p : Int} (h : 1 ≤ p ∧ p ≤ 8) : p = 1 ∨ p = 2 ∨ p = 3 ∨ p = 4 ∨ p = 5 ∨ p = 6 ∨ p = 7 ∨ p = 8 := by omega
theorem k6f {l : List Int} (h : ¬ bQ l = 0) : wF (bQ l) = l := by
  by_cases h1 : l = [70, 76]
  · subst h1; decide
  by_cases h2 : l = [70, 82]
  · subst h2; decide
  by_cases h3 : l = [70, 67]
  · subst h3; decide
  by_cases h4 : l = [76, 70]
  · subst h4; decide
  by_cases h5 : l = [66, 76]
  · subst h5; decide
  by_cases h6 : l = [66, 82]
  · subst h6; decide
  by_cases h7 : l = [83, 76]
  · subst h7; decide
  by_cases h8 : l = [83, 82]
  · subst h8; decide
  exact absurd (by unfold bQ; rw [if_neg h1, if_neg h2, if_neg h3, if_neg h4, if_neg h5, if_neg h6, if_neg h7, if_neg h8]) h
theorem k6g {p : Int} (h : 1 ≤ p ∧ p ≤ 8) : (wF p).length = 2 := by
  rcases k9p h with rfl | rfl | rfl | rfl | rfl | rfl | rfl | rfl <;> rfl
theorem k6e {l : List Int} (h : ¬ bQ l = 0) : l.length = 2 := by
  have h1 := k6f h
  rw [← h1]; exact k6g (by have := sF l; omega)
def fmT : List Int → List Int
  | [] => []
  | p :: r => [44] ++ wF p ++ fmT r
def fmL : List Int → List Int
  | [] => []
  | p :: r => wF p ++ fmT r
theorem k37 : ∀ a b : List Int, fmT (a ++ b) = fmT a ++ fmT b
  | [], b => rfl
  | p :: r, b => by show [44] ++ wF p ++ fmT (r ++ b) = [44] ++ wF p ++ fmT r ++ fmT b; rw [k37 r b, List.append_assoc ([44] ++ wF p)]
theorem k85 {a : List Int} {p : Int} (h : 1 ≤ a.length) : fmL (a ++ [p]) = fmL a ++ [44] ++ wF p := by
  cases a with
  | nil => exact absurd h (by decide)
  | cons x r =>
    show wF x ++ fmT (r ++ [p]) = wF x ++ fmT r ++ [44] ++ wF p
    rw [k37]
    show wF x ++ (fmT r ++ ([44] ++ wF p ++ [])) = _
    simp only [List.append_nil, List.append_assoc]
theorem d3 {m : List Int} {i : Nat} (h : i < m.length) : List.take (i + 1) m = List.take i m ++ [List.getD m i 0] := by
  rw [List.take_add_one, List.getElem?_eq_getElem h, List.getD_eq_getElem?_getD, List.getElem?_eq_getElem h]; rfl
def FB (m : List Int) (i : Nat) (b : List Int) : Prop := b = fmL (List.take i m)
theorem FB.zero (m : List Int) : FB m 0 [] := rfl
theorem FB.one {m b : List Int} (h : 0 < m.length) (hb : b = wF (List.getD m 0 0)) : FB m (0 + 1) b := by
  unfold FB; rw [d3 h, hb]; show _ = wF _ ++ []; rw [List.append_nil]
theorem FB.step {m b c q : List Int} {i : Nat} (h : FB m i b) (h1 : 1 ≤ i) (hi : i < m.length) (hq : q = wF (List.getD m i 0)) (hc : c = b ++ [44] ++ q) : FB m (i + 1) c := by
  unfold FB at *
  rw [d3 hi, k85 (by rw [List.length_take]; omega), ← h, ← hq, hc]
theorem FB.fin {m b : List Int} {i : Nat} (h : FB m i b) (hi : m.length ≤ i) : b = fmL m := by
  unfold FB at h; rw [List.take_of_length_le hi] at h; exact h
theorem FB.z {m b : List Int} {i : Nat} (h : FB m i b) (h0 : i = 0) : b = [] := by subst h0; exact h
/-! a text in parts -/
def wD : List Int → List (List Int)
  | [] => [[]]
  | x :: r => if x = 44 then [] :: wD r else match wD r with
    | [] => [[x]]
    | w :: ws => (x :: w) :: ws
theorem u6j : ∀ l, wD l ≠ []
  | [] => by simp [wD]
  | x :: r => by
    unfold wD
    split
    · simp
    · split <;> simp
def prF : Nat → List Int → Option (List Int)
  | 0, _ => none
  | n + 1, s => match s with
    | a :: b :: r => if bQ [a, b] = 0 then none else match r with
      | [] => some [bQ [a, b]]
      | c :: r2 => if c = 44 then (prF n r2).map (bQ [a, b] :: ·) else none
    | _ => none
def xC : List (List Int) → Option (List Int)
  | [] => some []
  | w :: ws => if bQ w = 0 then none else (xC ws).map (bQ w :: ·)
theorem v0k (a : Int) : bQ [a] = 0 := Decidable.byContradiction fun h => by have := k6e h; simp at this
theorem k0t : bQ [] = 0 := by decide
theorem v3p (a b c : Int) (r : List Int) : bQ (a :: b :: c :: r) = 0 := Decidable.byContradiction fun h => by have := k6e h; simp at this
theorem v0j (b : Int) : bQ [44, b] = 0 := Decidable.byContradiction fun h => by
  have h1 := k6f h
  rcases k9p (show 1 ≤ bQ [44, b] ∧ bQ [44, b] ≤ 8 by have := sF [44, b]; omega) with e | e | e | e | e | e | e | e <;> (rw [e] at h1; revert h1; simp [wF])
theorem v0i (a : Int) : bQ [a, 44] = 0 := Decidable.byContradiction fun h => by
  have h1 := k6f h
  rcases k9p (show 1 ≤ bQ [a, 44] ∧ bQ [a, 44] ≤ 8 by have := sF [a, 44]; omega) with e | e | e | e | e | e | e | e <;> (rw [e] at h1; revert h1; simp [wF])
theorem k22 (r : List Int) : wD (44 :: r) = [] :: wD r := by rw [wD]; rfl
theorem k21 {x : Int} (h : ¬ x = 44) (r : List Int) : ∃ w ws, wD r = w :: ws ∧ wD (x :: r) = (x :: w) :: ws := by
  cases e : wD r with
  | nil => exact absurd e (u6j r)
  | cons w ws => exact ⟨w, ws, rfl, by rw [wD, if_neg h, e]⟩
theorem u4b : ∀ (n : Nat) (s : List Int), s.length < n → xC (wD s) = prF n s
  | 0, s, h => absurd h (Nat.not_lt_zero _)
  | n + 1, [], _ => by
    show (if bQ [] = 0 then none else _) = none
    rw [if_pos k0t]
  | n + 1, [a], _ => by
    show xC (wD [a]) = none
    by_cases ha : a = 44
    · subst ha; rw [k22]; show (if bQ [] = 0 then none else _) = none; rw [if_pos k0t]
    · obtain ⟨w, ws, e1, e2⟩ := k21 ha []
      have e3 : w = [] := by
        have : wD [] = [[]] := rfl
        rw [this] at e1; simp at e1; exact e1.1
      rw [e2, e3]; show (if bQ [a] = 0 then none else _) = none; rw [if_pos (v0k a)]
  | n + 1, a :: b :: r, h => by
    show _ = (if bQ [a, b] = 0 then none else match r with
      | [] => some [bQ [a, b]]
      | c :: r2 => if c = 44 then (prF n r2).map (bQ [a, b] :: ·) else none)
    by_cases ha : a = 44
    · subst ha
      rw [k22, if_pos (v0j b)]; show (if bQ [] = 0 then none else _) = none; rw [if_pos k0t]
    · obtain ⟨w, ws, e1, e2⟩ := k21 ha (b :: r)
      rw [e2]
      by_cases hb : b = 44
      · subst hb
        rw [k22] at e1
        have e3 : w = [] := by simp at e1; exact e1.1
        rw [e3, if_pos (v0i a)]; show (if bQ [a] = 0 then none else _) = none; rw [if_pos (v0k a)]
      · obtain ⟨w2, ws2, e3, e4⟩ := k21 hb r
        rw [e4] at e1
        simp only [List.cons.injEq] at e1
        obtain ⟨rfl, rfl⟩ := e1
        cases r with
        | nil =>
          have e5 : wD [] = [[]] := rfl
          rw [e5] at e3
          simp only [List.cons.injEq] at e3
          obtain ⟨rfl, rfl⟩ := e3
          show (if bQ [a, b] = 0 then none else some [bQ [a, b]]) = _
          rfl
        | cons c r2 =>
          by_cases hc : c = 44
          · subst hc
            rw [k22] at e3
            simp only [List.cons.injEq] at e3
            obtain ⟨rfl, rfl⟩ := e3
            show (if bQ [a, b] = 0 then none else (xC (wD r2)).map (bQ [a, b] :: ·)) = _
            rw [u4b n r2 (by simp at h; omega)]
            rfl
          · obtain ⟨w3, ws3, e5, e6⟩ := k21 hc r2
            rw [e6] at e3
            simp only [List.cons.injEq] at e3
            obtain ⟨rfl, rfl⟩ := e3
            show (if bQ (a :: b :: c :: w3) = 0 then none else _) = _
            rw [if_pos (v3p a b c w3)]
            show none = (if bQ [a, b] = 0 then none else if c = 44 then _ else none)
            rw [if_neg hc]
            split <;> rfl
def rdP (s : List Int) : Option (List Int) := xC (wD s)
/-! places -/
def uT (l : List Int) (v : Int) : Nat → Int
  | 0 => -1
  | k + 1 => if 0 ≤ uT l v k then uT l v k else if List.getD l k 0 = v then (k : Int) else -1
theorem k49 {l : List Int} {v : Int} {k : Nat} (h : uT l v k = -1) (h2 : ¬ List.getD l k 0 = v) : uT l v (k + 1) = -1 := by
  show (if 0 ≤ uT l v k then _ else _) = _
  rw [if_neg (by omega), if_neg h2]
theorem nZ {l : List Int} {v : Int} {k : Nat} (h : uT l v k = -1) (h2 : List.getD l k 0 = v) : ∀ n, k < n → uT l v n = (k : Int)
  | n + 1, hn => by
    by_cases hk : k = n
    · subst hk
      show (if 0 ≤ uT l v k then _ else _) = _
      rw [if_neg (by omega), if_pos h2]
    · have := nZ h h2 n (by omega)
      show (if 0 ≤ uT l v n then _ else _) = _
      rw [if_pos (by omega)]; exact this
theorem bO (l : List Int) (v : Int) : ∀ n, -1 ≤ uT l v n ∧ uT l v n < (n : Int)
  | 0 => by show (-1 : Int) ≤ -1 ∧ (-1 : Int) < 0; omega
  | k + 1 => by
    have := bO l v k
    show -1 ≤ (if 0 ≤ uT l v k then _ else _) ∧ (if 0 ≤ uT l v k then _ else _) < _
    split
    · omega
    · split <;> omega
theorem k7a {l : List Int} {v : Int} : v ∈ l ↔ ∃ j, j < l.length ∧ List.getD l j 0 = v := by
  constructor
  · intro h
    obtain ⟨j, hj, e⟩ := List.mem_iff_getElem.1 h
    exact ⟨j, hj, by rw [List.getD_eq_getElem?_getD, List.getElem?_eq_getElem hj]; exact e⟩
  · rintro ⟨j, hj, e⟩
    rw [List.getD_eq_getElem?_getD, List.getElem?_eq_getElem hj] at e
    have e : l[j] = v := e
    rw [← e]; exact List.getElem_mem hj
/-! valid maps -/
def chE (l : List Int) (n j : Nat) : Bool := decide (1 ≤ List.getD l j 0 ∧ List.getD l j 0 ≤ 8 ∧ uT l (List.getD l j 0) n = (j : Int))
def wK (l : List Int) (n : Nat) : Bool := decide (1 ≤ n ∧ n ≤ 8) && (List.range n).all (chE l n)
theorem zF {l : List Int} {n : Nat} (h1 : 1 ≤ n ∧ n ≤ 8) (h : ∀ j, j < n → chE l n j = true) : wK l n = true :=
  Bool.and_eq_true_iff.2 ⟨decide_eq_true h1, List.all_eq_true.2 fun j hj => h j (List.mem_range.1 hj)⟩
theorem zH {l : List Int} {n : Nat} (h1 : ¬ (1 ≤ n ∧ n ≤ 8)) : wK l n = false := by unfold wK; rw [decide_eq_false h1]; rfl
theorem zG {l : List Int} {n k : Nat} (hk : k < n) (h : chE l n k = false) : wK l n = false := by
  cases hb : wK l n with
  | false => rfl
  | true =>
    have := List.all_eq_true.1 (Bool.and_eq_true_iff.1 hb).2 k (List.mem_range.2 hk)
    rw [h] at this; cases this
/-! the code: after so many pieces -/
def PA (L : List (List Int)) (i : Nat) (m : List Int) : Prop := xC (List.take i L) = some m
theorem k2g : ∀ (a b : List (List Int)), xC (a ++ b) = (xC a).bind fun x => (xC b).map (x ++ ·)
  | [], b => by show xC b = (xC b).map _; cases xC b <;> rfl
  | w :: a, b => by
    show (if bQ w = 0 then none else (xC (a ++ b)).map (bQ w :: ·)) = (if bQ w = 0 then none else (xC a).map (bQ w :: ·)).bind _
    by_cases h : bQ w = 0
    · rw [if_pos h, if_pos h]; rfl
    · rw [if_neg h, if_neg h, k2g a b]
      cases xC a with
      | none => rfl
      | some x => cases xC b <;> rfl
theorem PA.zero (L : List (List Int)) : PA L 0 [] := rfl
theorem k0e {m : List (List Int)} {i : Nat} (h : i < m.length) : List.take (i + 1) m = List.take i m ++ [List.getD m i []] := by
  rw [List.take_add_one, List.getElem?_eq_getElem h, List.getD_eq_getElem?_getD, List.getElem?_eq_getElem h]; rfl
theorem PA.step {L : List (List Int)} {i : Nat} {m : List Int} {p : Int} (h : PA L i m) (hi : i < L.length) (hp : ¬ bQ (List.getD L i []) = 0) (hq : p = bQ (List.getD L i [])) : PA L (i + 1) (m ++ [p]) := by
  unfold PA at *
  rw [k0e hi, k2g, h]
  show (if _ then none else _ : Option (List Int)).map _ = _
  rw [if_neg hp, hq]; rfl
theorem PA.fin {L : List (List Int)} {i : Nat} {m : List Int} (h : PA L i m) (hi : L.length ≤ i) : xC L = some m := by
  unfold PA at h; rw [List.take_of_length_le hi] at h; exact h
/-! the reference: at a place -/
def PR (s : List Int) (a : Nat) (m : List Int) : Prop := ∀ n, s.length < n → prF n s = (prF (n - m.length) (List.drop a s)).map (m ++ ·)
theorem PR.zero (s : List Int) : PR s 0 [] := fun n h => by
  show prF n s = (prF n s).map _
  cases prF n s <;> rfl
theorem k5d {s : List Int} {a : Nat} (h : a + 2 ≤ s.length) : List.drop a s = List.getD s a 0 :: List.getD s (a + 1) 0 :: List.drop (a + 2) s := by
  rw [List.drop_eq_getElem_cons (by omega), List.drop_eq_getElem_cons (show a + 1 < s.length by omega)]
  rw [List.getD_eq_getElem?_getD, List.getElem?_eq_getElem (by omega), List.getD_eq_getElem?_getD, List.getElem?_eq_getElem (by omega)]; rfl
theorem k5f {s : List Int} {a : Nat} (h : a + 2 ≤ s.length) : List.take 2 (List.drop a s) = [List.getD s a 0, List.getD s (a + 1) 0] := by
  rw [k5d h]; rfl
theorem k2d {n a : Nat} {s : List Int} (h : a + 2 ≤ s.length) : prF (n + 1) (List.drop a s) = if bQ (List.take 2 (List.drop a s)) = 0 then none else match List.drop (a + 2) s with
      | [] => some [bQ (List.take 2 (List.drop a s))]
      | c :: r2 => if c = 44 then (prF n r2).map (bQ (List.take 2 (List.drop a s)) :: ·) else none := by
  rw [k5f h, k5d h]; rfl
theorem PR.last {s : List Int} {a : Nat} {m : List Int} {p : Int} (h : PR s a m) (hm : 3 * m.length = a) (h2 : s.length = a + 2) (hp : ¬ bQ (List.take 2 (List.drop a s)) = 0) (hq : p = bQ (List.take 2 (List.drop a s))) : rdP s = some (m ++ [p]) := by
  unfold rdP
  rw [u4b _ _ (Nat.lt_succ_self _), h _ (Nat.lt_succ_self _)]
  obtain ⟨n, hn⟩ : ∃ n, s.length + 1 - m.length = n + 1 := ⟨s.length - m.length, by omega⟩
  rw [hn, k2d (by omega), if_neg hp, List.drop_eq_nil_of_le (by omega), hq]; rfl
theorem PR.step {s : List Int} {a : Nat} {m : List Int} {p : Int} (h : PR s a m) (hm : 3 * m.length = a) (h2 : a + 2 < s.length) (hc : List.getD s (a + 2) 0 = 44) (hp : ¬ bQ (List.take 2 (List.drop a s)) = 0) (hq : p = bQ (List.take 2 (List.drop a s))) : PR s (a + 3) (m ++ [p]) := fun n hn => by
  rw [h n hn]
  obtain ⟨k, hk⟩ : ∃ k, n - m.length = k + 1 := ⟨n - m.length - 1, by omega⟩
  rw [hk, k2d (by omega), if_neg hp, List.drop_eq_getElem_cons h2]
  rw [List.getD_eq_getElem?_getD, List.getElem?_eq_getElem h2] at hc
  have hc : s[a + 2] = 44 := hc
  show (if _ then _ else none : Option (List Int)).map _ = _
  rw [if_pos hc, hq, List.length_append, show n - (m.length + [bQ (List.take 2 (List.drop a s))].length) = k by simp only [List.length_cons, List.length_nil]; omega, show a + 2 + 1 = a + 3 by omega]
  cases prF k (List.drop (a + 3) s) with
  | none => rfl
  | some x =>
    show some (m ++ (bQ (List.take 2 (List.drop a s)) :: x)) = some (m ++ [bQ (List.take 2 (List.drop a s))] ++ x)
    rw [List.append_assoc]; rfl
end Go.Proofs.YtbicifcgghmhaaaGreat
namespace Go.Proofs.YtbicifcgghmhaaaGreat
open Go.ChangeShapes Go.WideShapes Go.ChangeAt Go.RowKit
set_option linter.unusedVariables false
set_option linter.unusedSimpArgs false
/-! sorted lists -/
def stL (l : List Int) : List Int := l.mergeSort fun x y => decide (x ≤ y)
theorem nG (l : List Int) : (stL l).Perm l := List.mergeSort_perm _ _
theorem eN (l : List Int) : (stL l).length = l.length := (nG l).length_eq
theorem k5j (l : List Int) : (stL l).Pairwise (· ≤ ·) := by
  have h := List.pairwise_mergeSort (le := fun (x y : Int) => decide (x ≤ y)) (fun a b c h1 h2 => decide_eq_true (by have := of_decide_eq_true h1; have := of_decide_eq_true h2; omega)) (fun a b => by
    rw [Bool.or_eq_true]
    rcases Int.le_total a b with h | h
    · exact .inl (decide_eq_true h)
    · exact .inr (decide_eq_true h)) l
  exact h.imp fun h => of_decide_eq_true h
theorem k3y {a b : List Int} (h : a.Perm b) (ha : a.Pairwise (· ≤ ·)) (hb : b.Pairwise (· ≤ ·)) : a = b :=
  List.Perm.eq_of_pairwise (le := (· ≤ ·)) (fun x y _ _ h1 h2 => by omega) ha hb h
theorem u1d : stL [] = [] := by unfold stL; exact List.mergeSort_nil
def SO (m : List Int) (i : Nat) (out : List Int) : Prop := out = stL (List.take i m)
theorem SO.zero (m : List Int) : SO m 0 [] := u1d.symm
theorem SO.len {m out : List Int} {i : Nat} (h : SO m i out) (hi : i ≤ m.length) : out.length = i := by
  unfold SO at h; rw [h, eN, List.length_take]; omega
theorem SO.fin {m out : List Int} {i : Nat} (h : SO m i out) (hi : m.length ≤ i) : out = stL m := by
  unfold SO at h; rw [List.take_of_length_le hi] at h; exact h
theorem u2b {l : List Int} (h : l.Pairwise (· ≤ ·)) {i j : Nat} (hij : i ≤ j) (hj : j < l.length) : List.getD l i 0 ≤ List.getD l j 0 := by
  rcases Nat.lt_or_ge i j with h1 | h1
  · rw [List.getD_eq_getElem?_getD, List.getElem?_eq_getElem (by omega), List.getD_eq_getElem?_getD, List.getElem?_eq_getElem hj]
    exact List.pairwise_iff_getElem.1 h i j (by omega) hj h1
  · rw [show i = j by omega]; exact Int.le_refl _
theorem xL {l : List Int} {k : Nat} {x : Int} (h : x ∈ List.take k l) : ∃ j, j < k ∧ j < l.length ∧ List.getD l j 0 = x := by
  obtain ⟨j, hj, e⟩ := k7a.1 h
  rw [List.length_take] at hj
  exact ⟨j, by omega, by omega, by rw [← e, k4a (by omega)]⟩
theorem lY {l : List Int} {k : Nat} {x : Int} (h : x ∈ List.drop k l) : ∃ j, k ≤ j ∧ j < l.length ∧ List.getD l j 0 = x := by
  obtain ⟨j, hj, e⟩ := k7a.1 h
  rw [List.length_drop] at hj
  exact ⟨k + j, by omega, by omega, by rw [← e, eB]⟩
theorem k18 {out : List Int} {k : Nat} {p : Int} (h : out.Pairwise (· ≤ ·)) (hk : k ≤ out.length) (h1 : ∀ j, k ≤ j → j < out.length → p < List.getD out j 0) (h2 : k = 0 ∨ List.getD out (k - 1) 0 ≤ p) : (List.take k out ++ [p] ++ List.drop k out).Pairwise (· ≤ ·) := by
  rw [List.append_assoc, List.pairwise_append]
  refine ⟨h.sublist (List.take_sublist _ _), ?_, ?_⟩
  · show (p :: List.drop k out).Pairwise _
    refine List.Pairwise.cons (fun x hx => ?_) (h.sublist (List.drop_sublist _ _))
    obtain ⟨j, j1, j2, rfl⟩ := lY hx
    have := h1 j j1 j2; omega
  · intro x hx y hy
    obtain ⟨j, j1, j2, rfl⟩ := xL hx
    have h3 : List.getD out j 0 ≤ p := by
      rcases h2 with h2 | h2
      · omega
      · have := u2b h (show j ≤ k - 1 by omega) (show k - 1 < out.length by omega); omega
    rcases List.mem_cons.1 (show y ∈ p :: List.drop k out from hy) with rfl | hy
    · exact h3
    · obtain ⟨q, q1, q2, rfl⟩ := lY hy
      have := h1 q q1 q2; omega
theorem k7v (out : List Int) (k : Nat) (p : Int) : (List.take k out ++ [p] ++ List.drop k out).Perm (out ++ [p]) := by
  rw [List.append_assoc]
  refine (List.Perm.append_left _ List.perm_append_comm).trans ?_
  rw [← List.append_assoc, List.take_append_drop]
theorem SO.step {m out q : List Int} {i k : Nat} {p : Int} (h : SO m i out) (hi : i < m.length) (hp : p = List.getD m i 0) (hk : k ≤ out.length) (h1 : ∀ j, k ≤ j → j < out.length → p < List.getD out j 0) (h2 : k = 0 ∨ List.getD out (k - 1) 0 ≤ p) (hq : q = List.take k out ++ [p] ++ List.drop k out) : SO m (i + 1) q := by
  unfold SO at *
  have hs : out.Pairwise (· ≤ ·) := by rw [h]; exact k5j _
  rw [hq]
  refine k3y ?_ (k18 hs hk h1 h2) (k5j _)
  refine (k7v out k p).trans ?_
  rw [d3 hi, ← hp]
  refine List.Perm.trans ?_ (nG _).symm
  rw [h]
  exact (nG _).append_right _
/-! what two lists have in common -/
def zE (a b : List Int) (n : Nat) : List Int := a.filter fun x => decide (0 ≤ uT b x n)
theorem k3d (a b : List Int) (n : Nat) : (zE a b n).length ≤ a.length := List.length_filter_le _ _
def CO (a b : List Int) (n i : Nat) (out : List Int) : Prop := out = zE (List.take i a) b n
theorem CO.zero (a b : List Int) (n : Nat) : CO a b n 0 [] := rfl
theorem CO.y {a b out : List Int} {n i : Nat} {x : Int} (h : CO a b n i out) (hi : i < a.length) (hx : x = List.getD a i 0) (h1 : 0 ≤ uT b (List.getD a i 0) n) : CO a b n (i + 1) (out ++ [x]) := by
  unfold CO zE at *
  rw [d3 hi, List.filter_append, ← h, hx]
  congr 1
  rw [List.filter_cons_of_pos (p := fun x => decide (0 ≤ uT b x n)) (a := List.getD a i 0) (decide_eq_true h1)]; rfl
theorem CO.n {a b out : List Int} {n i : Nat} (h : CO a b n i out) (hi : i < a.length) (h1 : ¬ 0 ≤ uT b (List.getD a i 0) n) : CO a b n (i + 1) out := by
  unfold CO zE at *
  rw [d3 hi, List.filter_append, ← h]
  have : List.filter (fun x => decide (0 ≤ uT b x n)) [List.getD a i 0] = [] := by
    rw [List.filter_cons_of_neg (by rw [decide_eq_true_iff]; exact h1)]; rfl
  rw [this, List.append_nil]
theorem CO.fin {a b out : List Int} {n i : Nat} (h : CO a b n i out) (hi : a.length ≤ i) : out = zE a b n := by
  unfold CO at h; rw [List.take_of_length_le hi] at h; exact h
theorem CO.len {a b out : List Int} {n i : Nat} (h : CO a b n i out) (hi : i ≤ a.length) : out.length ≤ i := by
  unfold CO at h; rw [h]
  have := k3d (List.take i a) b n
  rw [List.length_take] at this; omega
/-! the same -/
def bL (a b : List Int) : Bool := decide (a = b)
theorem u6g {a b : List Int} (h : a = b) : bL a b = true := decide_eq_true h
theorem k5l {a b : List Int} (h : ¬ a = b) : bL a b = false := decide_eq_false h
theorem u6i {a b : List Int} (h : bL a b = true) : a = b := of_decide_eq_true h
theorem u6h {a b : List Int} (h : bL a b = false) : ¬ a = b := of_decide_eq_false h
theorem k5k {a b : List Int} (h : a.length = b.length) (h2 : ∀ j, j < a.length → List.getD a j 0 = List.getD b j 0) : bL a b = true := by
  refine u6g (List.ext_getElem h fun i h1 h3 => ?_)
  have := h2 i h1
  rw [List.getD_eq_getElem?_getD, List.getElem?_eq_getElem h1, List.getD_eq_getElem?_getD, List.getElem?_eq_getElem h3] at this
  exact this
theorem k5n {a b : List Int} (h : ¬ a.length = b.length) : bL a b = false := k5l fun e => h (by rw [e])
theorem k5m {a b : List Int} {k : Nat} (h : ¬ List.getD a k 0 = List.getD b k 0) : bL a b = false := k5l fun e => h (by rw [e])
end Go.Proofs.YtbicifcgghmhaaaGreat
namespace Go.Proofs.YtbicifcgghmhaaaGreat
open Go.ChangeShapes Go.WideShapes Go.ChangeAt Go.RowKit
set_option linter.unusedVariables false
set_option linter.unusedSimpArgs false
set_option maxHeartbeats 4000000
set_option maxRecDepth 100000
theorem iL {p : Prop} (h : p := by first | omega | assumption | simp) : p := h
theorem cO {p : Prop} (h : p := by first | omega | (simp only [uU, fZ, eN, qV, List.length_append, List.length_cons, List.length_nil, List.length_take, List.length_drop, List.length_replicate, List.length_set, List.length_map, List.length_reverse, Nat.mul_one] <;> omega) | rfl) : p := h
theorem wO {p : Prop} (h : p := by first | rfl | omega | assumption | (simp; done) | (simp; omega)) : p := h
theorem wN {p : Prop} (h : p := by first | omega | (show _ < _; simp; omega)) : p := h
@[reducible] def yF (x : Int) : Prop := ((-9223372036854775808) ≤ x ∧ x ≤ 9223372036854775807)
@[reducible] def cU (k : Nat) : Prop := (((((k + 1) : Nat) : Int) : Int) = ((k : Int) + 1))
theorem oB (l : List Int) (n : Nat) (v : Int) (hn : List.length l = n) (hm : n ≤ 1000000) : Fun 163 [.c (.d (D.sl (dI .i64 l) n)), iE v] (kF []) 0 (iV (uT l v n)) (kF []) 0 := by
 refine Fun.mk (n := 19) Tryz.func163 rfl rfl (Nat.le_of_ble_eq_true rfl) ?_
 intro cx hcx
 refine kI [.no] True [(0, sV .i64 l n), (1, iV v)] [] 0 trivial ?_
 refine AW.seq ?_
 refine kS [.no, .no, .no] True [(0, sV .i64 l n), (1, iV v), (7, uV n), (8, iV 0)] trivial ?_
 refine AW.block ?_
 refine qF 0 hcx (fun (x : {x : Nat // match x with | k => (k ≤ n) ∧ (uT l v k = -1)}) => match x with | ⟨k, _⟩ => (⟨[(0, sV .i64 l n), (1, iV v), (7, uV n), (8, uV k)], [], 0⟩ : ES)) (fun x => match x with | ⟨k, _⟩ => n - k) ⟨(0 : Nat), ⟨iL, rfl⟩⟩ [] (P := (kM (dI .i64 l)) ∧ (kH n) ∧ (kP v) ∧ (kP (n : Int)) ∧ (kP 0)) zk ⟨rfl, rfl, rfl, rfl, rfl⟩ ?_
 rintro ⟨k, hinv0⟩
 obtain ⟨hk, hi⟩ : (k ≤ n) ∧ (uT l v k = -1) := hinv0
 refine uG (l := [(0, sV .i64 l n), (1, iV v), (7, uV n), (8, uV k)]) (g := []) (nx := 0) rfl rfl rfl ?_
 by_cases hx1 : (((k : Nat) : Int) < ((n : Nat) : Int))
 ·refine kI [.b true] (((k : Int) < (n : Int))) [(0, sV .i64 l n), (1, iV v), (7, uV n), (8, uV k), (9, bV true)] [] 0 zo ?_
  refine AW.seq ?_
  refine vO ?_
  refine AW.seq ?_
  refine AW.block ?_
  refine kS [.no, .no] True [(0, sV .i64 l n), (1, iV v), (5, uV k), (7, uV n), (8, uV k)] trivial ?_
  by_cases hx2 : (v = (List.getD l k 0))
  ·refine kS [.no, .no, .no, .n k, .d (D.lit (.int .i64 (List.getD l k 0))), .b true] ((kP (k : Int)) ∧ (k < n) ∧ ((List.drop k (dI .i64 l))[0]? = some (D.lit (.int .i64 (List.getD l k 0)))) ∧ ((v = (List.getD l k 0)))) [(0, sV .i64 l n), (1, iV v), (5, uV k), (7, uV n), (8, uV k), (16, bV true)] ⟨rfl, zo, (yG _ _ _ cO), zo⟩ ?_
   refine zt ?_
   refine kS [.no, .no] True [(4, uV k)] trivial ?_
   refine AW.ret ?_
   exact EndP.of (.inr rfl) [] (P := (((uT l v n) : Int) = (k : Int))) zk (by first | rfl | exact nZ hi zo n zo | (rw [show n = k by omega]; exact hi))
  ·refine kS [.no, .no, .no, .n k, .d (D.lit (.int .i64 (List.getD l k 0))), .b false] ((kP (k : Int)) ∧ (k < n) ∧ ((List.drop k (dI .i64 l))[0]? = some (D.lit (.int .i64 (List.getD l k 0)))) ∧ (¬ (v = (List.getD l k 0)))) [(0, sV .i64 l n), (1, iV v), (5, uV k), (7, uV n), (8, uV k), (16, bV false)] ⟨rfl, zo, (yG _ _ _ cO), zo⟩ ?_
   refine u9 ?_
   refine yK [.w, .no] (yF ((k : Int) + 1)) [(0, sV .i64 l n), (1, iV v), (7, uV n), (8, iV (↑k + 1))] ⟨by omega, by omega⟩ ?_
   exact Rd.of ⟨((k + 1) : Nat), ⟨iL, (k49 hi zo)⟩⟩ [] (P := (kM (dI .i64 l)) ∧ (kH n) ∧ (kP v) ∧ (kP (n : Int)) ∧ (cU k)) zk ⟨rfl, rfl, rfl, rfl, wO⟩ (show n - (k + 1) < n - k from wN)
 ·refine kI [.b false] (¬ ((k : Int) < (n : Int))) [(0, sV .i64 l n), (1, iV v), (7, uV n), (8, uV k), (9, bV false)] [] 0 zo ?_
  refine AW.seq ?_
  refine zf ?_
  refine AW.exit ?_
  refine kI [.no] True [(4, iV (-1))] [] 0 trivial ?_
  refine AW.ret ?_
  exact EndP.of (.inr rfl) [] (P := (((uT l v n) : Int) = (-1))) zk (by first | rfl | exact nZ hi zo n zo | (rw [show n = k by omega]; exact hi))
theorem mR (l : List Int) (n : Nat) (v : Int) (hn : List.length l = n) (hm : n ≤ 1000000) : Fun 165 [.c (.d (D.sl (dI .i64 l) n)), iE v] (kF []) 0 (iV (uT l v n)) (kF []) 0 := by
 refine Fun.mk (n := 8) Tryz.func165 rfl rfl (Nat.le_of_ble_eq_true rfl) ?_
 intro cx hcx
 refine kI [.no] True [(0, sV .i64 l n), (1, iV v)] [] 0 trivial ?_
 have hx1 : ((((-1) : Int) ≤ (uT l v n)) ∧ ((uT l v n) < ((n : Nat) : Int))) := bO l v n
 refine kS [.no, .no, .call [] (iV (uT l v n)) [] 0 [] none, .no] _ [(4, iV (uT l v n))] (oB l n v zo zo) ?_
 refine AW.ret ?_
 exact EndP.of (.inr rfl) [] (P := (kP (uT l v n))) zk rfl
theorem wP {p : Prop} (h : p := by first | rfl | assumption | exact decide_eq_true (by omega) | exact decide_eq_false (by omega) | (simp; omega)) : p := h
theorem u0n (p : Int)  : Fun 168 [iE p] (kF []) 0 (u1 (D.lit (.bool (decide (1 ≤ p ∧ p ≤ 8))))) (kF []) 0 := by
 refine Fun.mk (n := 9) Tryz.func168 rfl rfl (Nat.le_of_ble_eq_true rfl) ?_
 intro cx hcx
 refine kI [.no] True [(0, iV p)] [] 0 trivial ?_
 by_cases hx1 : ((1 : Int) ≤ p)
 ·by_cases hx2 : (p ≤ 8)
  ·refine kS [.no, .b true, .no, .no, .b true, .no, .no] ((((1 : Int) ≤ p)) ∧ ((p ≤ 8))) [(2, bV true)] ⟨zo, zo⟩ ?_
   refine AW.ret ?_
   exact EndP.of (.inr rfl) [] (P := ((decide (1 ≤ p ∧ p ≤ 8)) = true)) zk wP
  ·refine kS [.no, .b true, .no, .no, .b false, .no, .no] ((((1 : Int) ≤ p)) ∧ (¬ (p ≤ 8))) [(2, bV false)] ⟨zo, zo⟩ ?_
   refine AW.ret ?_
   exact EndP.of (.inr rfl) [] (P := ((decide (1 ≤ p ∧ p ≤ 8)) = false)) zk wP
 ·refine kS [.no, .b false, .no, .no, .no] (¬ ((1 : Int) ≤ p)) [(2, bV false)] zo ?_
  refine AW.ret ?_
  exact EndP.of (.inr rfl) [] (P := ((decide (1 ≤ p ∧ p ≤ 8)) = false)) zk wP
theorem t8 (l : List Int) (n : Nat) (hn : List.length l = n) (hm : n ≤ 1000000) : Fun 156 [.c (.d (D.sl (dI .i64 l) n))] (kF []) 0 (u1 (D.lit (.bool (wK l n)))) (kF []) 0 := by
 refine Fun.mk (n := 31) Tryz.func156 rfl rfl (Nat.le_of_ble_eq_true rfl) ?_
 intro cx hcx
 refine kI [.no] True [(0, sV .i64 l n)] [] 0 trivial ?_
 refine AW.seq ?_
 by_cases hx1 : (((n : Nat) : Int) < 1)
 ·refine kS [.no, .no, .b true, .no, .no] (((n : Int) < 1)) [(0, sV .i64 l n), (12, bV true)] zo ?_
  refine zt ?_
  refine kS [.no] True [(2, bV false)] trivial ?_
  refine AW.ret ?_
  exact EndP.of (.inr rfl) [] (P := ((wK l n) = false)) zk (by first | exact zF zo (fun j hj => ha j zo) | exact zH zo | exact zG (k := k) zo (decide_eq_false zo))
 ·by_cases hx2 : ((8 : Int) < ((n : Nat) : Int))
  ·refine kS [.no, .no, .b false, .no, .no, .no, .b true, .no] ((¬ ((n : Int) < 1)) ∧ (((8 : Int) < (n : Int)))) [(0, sV .i64 l n), (12, bV true)] ⟨zo, zo⟩ ?_
   refine zt ?_
   refine kS [.no] True [(2, bV false)] trivial ?_
   refine AW.ret ?_
   exact EndP.of (.inr rfl) [] (P := ((wK l n) = false)) zk (by first | exact zF zo (fun j hj => ha j zo) | exact zH zo | exact zG (k := k) zo (decide_eq_false zo))
  ·refine kS [.no, .no, .b false, .no, .no, .no, .b false, .no] ((¬ ((n : Int) < 1)) ∧ (¬ ((8 : Int) < (n : Int)))) [(0, sV .i64 l n), (12, bV false)] ⟨zo, zo⟩ ?_
   refine u9 ?_
   refine AW.seq ?_
   refine kS [.no, .no, .no] True [(0, sV .i64 l n), (13, sV .i64 l n), (14, uV n), (15, iV 0)] trivial ?_
   refine AW.block ?_
   refine qF 0 hcx (fun (x : {x : Nat // match x with | k => (k ≤ n) ∧ (∀ j, j < k → chE l n j = true)}) => match x with | ⟨k, _⟩ => (⟨[(0, sV .i64 l n), (13, sV .i64 l n), (14, uV n), (15, uV k)], [], 0⟩ : ES)) (fun x => match x with | ⟨k, _⟩ => n - k) ⟨(0 : Nat), ⟨iL, (fun j hj => absurd hj (Nat.not_lt_zero j))⟩⟩ [] (P := (kM (dI .i64 l)) ∧ (kH n) ∧ (kM (dI .i64 l)) ∧ (kH n) ∧ (kP (n : Int)) ∧ (kP 0)) zk ⟨rfl, rfl, rfl, rfl, rfl, rfl⟩ ?_
   rintro ⟨k, hinv0⟩
   obtain ⟨hk, ha⟩ : (k ≤ n) ∧ (∀ j, j < k → chE l n j = true) := hinv0
   refine uG (l := [(0, sV .i64 l n), (13, sV .i64 l n), (14, uV n), (15, uV k)]) (g := []) (nx := 0) rfl rfl rfl ?_
   by_cases hx3 : (((k : Nat) : Int) < ((n : Nat) : Int))
   ·refine kI [.b true] (((k : Int) < (n : Int))) [(0, sV .i64 l n), (13, sV .i64 l n), (14, uV n), (15, uV k), (16, bV true)] [] 0 zo ?_
    refine AW.seq ?_
    refine vO ?_
    refine AW.seq ?_
    refine AW.block ?_
    refine kS [.no, .n k, .d (D.lit (.int .i64 (List.getD l k 0))), .no, .no] ((kP (k : Int)) ∧ (k < n) ∧ ((List.drop k (dI .i64 l))[0]? = some (D.lit (.int .i64 (List.getD l k 0))))) [(0, sV .i64 l n), (3, uV k), (4, iV (List.getD l k 0)), (13, sV .i64 l n), (14, uV n), (15, uV k)] ⟨rfl, zo, (yG _ _ _ cO)⟩ ?_
    rcases Bool.eq_false_or_eq_true (decide (1 ≤ (List.getD l k 0) ∧ (List.getD l k 0) ≤ 8)) with hx4 | hx4
    ·have hx5 : (((1 : Int) ≤ (List.getD l k 0)) ∧ ((List.getD l k 0) ≤ 8)) := of_decide_eq_true hx4
     by_cases hx7 : ((uT l (List.getD l k 0) n) ≠ ((k : Nat) : Int))
     ·have hx8 : ((((-1) : Int) ≤ (uT l (List.getD l k 0) n)) ∧ ((uT l (List.getD l k 0) n) < ((n : Nat) : Int))) := bO l (List.getD l k 0) n
      refine kS (.no :: .call [] (bV true) [] 0 [] none :: qN 4 [.call [] (iV (uT l (List.getD l k 0) n)) [] 0 [] none, .no, .b true, .no]) ((Fun 168 [iE (List.getD l k 0)] (kF []) 0 (bV true) (kF []) 0) ∧ (_) ∧ (((uT l (List.getD l k 0) n) ≠ (k : Int)))) [(0, sV .i64 l n), (13, sV .i64 l n), (14, uV n), (15, uV k), (29, bV true)] ⟨(by have h0 := (u0n (List.getD l k 0)); rw [hx4] at h0; exact h0), (mR l n (List.getD l k 0) zo zo), zo⟩ ?_
      refine zt ?_
      refine kS [.no] True [(2, bV false)] trivial ?_
      refine AW.ret ?_
      exact EndP.of (.inr rfl) [] (P := ((wK l n) = false)) zk (by first | exact zF zo (fun j hj => ha j zo) | exact zH zo | exact zG (k := k) zo (decide_eq_false zo))
     ·have hx9 : ((((-1) : Int) ≤ (uT l (List.getD l k 0) n)) ∧ ((uT l (List.getD l k 0) n) < ((n : Nat) : Int))) := bO l (List.getD l k 0) n
      refine kS (.no :: .call [] (bV true) [] 0 [] none :: qN 4 [.call [] (iV (uT l (List.getD l k 0) n)) [] 0 [] none, .no, .b false, .no]) ((Fun 168 [iE (List.getD l k 0)] (kF []) 0 (bV true) (kF []) 0) ∧ (_) ∧ (¬ ((uT l (List.getD l k 0) n) ≠ (k : Int)))) [(0, sV .i64 l n), (13, sV .i64 l n), (14, uV n), (15, uV k), (29, bV false)] ⟨(by have h0 := (u0n (List.getD l k 0)); rw [hx4] at h0; exact h0), (mR l n (List.getD l k 0) zo zo), zo⟩ ?_
      refine u9 ?_
      refine yK [.w, .no] (yF ((k : Int) + 1)) [(0, sV .i64 l n), (13, sV .i64 l n), (14, uV n), (15, iV (↑k + 1))] ⟨by omega, by omega⟩ ?_
      exact Rd.of ⟨((k + 1) : Nat), ⟨iL, (fun j hj => (Nat.lt_succ_iff_lt_or_eq.1 hj).elim (ha j) (fun e9 => by subst e9; exact decide_eq_true zo))⟩⟩ [] (P := (kM (dI .i64 l)) ∧ (kH n) ∧ (kM (dI .i64 l)) ∧ (kH n) ∧ (kP (n : Int)) ∧ (cU k)) zk ⟨rfl, rfl, rfl, rfl, rfl, wO⟩ (show n - (k + 1) < n - k from wN)
    ·have hx10 : ¬ (((1 : Int) ≤ (List.getD l k 0)) ∧ ((List.getD l k 0) ≤ 8)) := of_decide_eq_false hx4
     refine kS [.no, .call [] (bV false) [] 0 [] none, .no, .no, .no] (Fun 168 [iE (List.getD l k 0)] (kF []) 0 (bV false) (kF []) 0) [(0, sV .i64 l n), (13, sV .i64 l n), (14, uV n), (15, uV k), (29, bV true)] (by have h0 := (u0n (List.getD l k 0)); rw [hx4] at h0; exact h0) ?_
     refine zt ?_
     refine kS [.no] True [(2, bV false)] trivial ?_
     refine AW.ret ?_
     exact EndP.of (.inr rfl) [] (P := ((wK l n) = false)) zk (by first | exact zF zo (fun j hj => ha j zo) | exact zH zo | exact zG (k := k) zo (decide_eq_false zo))
   ·refine kI [.b false] (¬ ((k : Int) < (n : Int))) [(0, sV .i64 l n), (13, sV .i64 l n), (14, uV n), (15, uV k), (16, bV false)] [] 0 zo ?_
    refine AW.seq ?_
    refine zf ?_
    refine AW.exit ?_
    refine kI [.no] True [(2, bV true)] [] 0 trivial ?_
    refine AW.ret ?_
    exact EndP.of (.inr rfl) [] (P := ((wK l n) = true)) zk (by first | exact zF zo (fun j hj => ha j zo) | exact zH zo | exact zG (k := k) zo (decide_eq_false zo))
theorem pD (l : List Int) (n : Nat) (hn : List.length l = n) (hb : n ≤ 1000000) (h1 : 1 ≤ n) : Fun 96 [.c (.d (D.sl (dI .i64 l) n))] (kF []) 0 (oV 0 0 n 1) (kF [(0, some (3, .ds (dI .i64 l)))]) 1 := by
 refine Fun.mk (n := 8) Tryz.func96 rfl rfl (Nat.le_of_ble_eq_true rfl) ?_
 intro cx hcx
 refine kI [.no] True [(0, sV .i64 l n)] [] 0 trivial ?_
 refine AW.seq ?_
 refine kS [.no, .no] (1 ≤ n) [(0, sV .i64 l n), (4, bV false)] zo ?_
 refine u9 ?_
 refine kI [.no, .no, .ap none (0 + n) (dI .i64 l), .no] (((dI .i64 l).length = n * 1) ∧ ((([] : List D) : List D).length = 0 * 1) ∧ ((0 + n) * 8 ≤ 140737488355328) ∧ ((0 : Nat) + n = (0 + n)) ∧ ((([] : List D) : List D) ++ (dI .i64 l) = (dI .i64 l))) [(2, oV 1 0 (0 + n) 1)] [(1, some (3, .ds (dI .i64 l)))] 2 ⟨cO, cO, zo, zo, rfl⟩ ?_
 refine AW.ret ?_
 exact EndP.of (.inr rfl) [(0, 1)] (P := (kH 0) ∧ ((n : Nat) = (0 + n)) ∧ (kM (dI .i64 l))) zk ⟨rfl, (by first | omega | rfl | assumption | (simp; done) | (simp; omega)), rfl⟩
theorem pC   : Fun 96 [.c (.d (D.lit (.slice none 0 0)))] (kF []) 0 (oV 0 0 0 1) (kF [(0, some (3, .ds ([] : List D)))]) 1 := by
 refine Fun.mk (n := 8) Tryz.func96 rfl rfl (Nat.le_of_ble_eq_true rfl) ?_
 intro cx hcx
 refine kI [.no] True [(0, nV)] [] 0 trivial ?_
 refine AW.seq ?_
 refine kS [.no, .no] True [(0, nV), (4, bV true)] trivial ?_
 refine zt ?_
 refine kS [.no] True [(2, nV)] trivial ?_
 refine AW.adoptS 2 1 3 rfl ?_
 refine AW.ret ?_
 exact EndP.of (.inr rfl) [] (P := (kH 0) ∧ (kH 0) ∧ (kM ([] : List D))) zk ⟨rfl, rfl, rfl⟩
theorem pB (a : Addr) (cap : Nat) (hm : cap ≤ maxLen) : Fun 96 [.c (.d (D.lit (.slice (some a) 0 cap)))] (kF []) 0 (oV 0 0 0 1) (kF [(0, some (3, .ds ([] : List D)))]) 1 := by
 refine Fun.mk (n := 8) Tryz.func96 rfl rfl (Nat.le_of_ble_eq_true rfl) ?_
 intro cx hcx
 refine kI [.no] True [(0, u1 (D.lit (.slice (some a) 0 cap)))] [] 0 trivial ?_
 refine AW.seq ?_
 refine kS [.no, .no] True [(0, u1 (D.lit (.slice (some a) 0 cap))), (4, bV false)] trivial ?_
 refine u9 ?_
 refine k01 0 hm (fun h9 => by cases h9) rfl ?_
 refine kI [.no, .no, .ap none 0 ([] : List D), .no] ((([] : List D).length = 0 * 1) ∧ ((([] : List D) : List D).length = 0 * 1) ∧ ((0 + 0) * 8 ≤ 140737488355328) ∧ ((0 : Nat) + 0 = 0) ∧ ((([] : List D) : List D) ++ ([] : List D) = ([] : List D))) [(2, oV 1 0 0 1)] [(1, some (3, .ds ([] : List D)))] 2 ⟨cO, cO, zo, zo, rfl⟩ ?_
 refine AW.ret ?_
 exact EndP.of (.inr rfl) [(0, 1)] (P := (kH 0) ∧ (kH 0) ∧ (kM ([] : List D))) zk ⟨rfl, rfl, rfl⟩
theorem dJ (l : List Int) (n : Nat) (hn : List.length l = n) (hb : n ≤ 1000000) : Fun 96 [.c (.d (D.sl (dI .i64 l) n))] (kF []) 0 (oV 0 0 n 1) (kF [(0, some (3, .ds (dI .i64 l)))]) 1 := by
 by_cases h1 : 1 ≤ n
 ·exact pD l n hn hb h1
 ·obtain rfl : n = 0 := by omega
  obtain rfl : l = [] := List.eq_nil_of_length_eq_zero hn
  exact Fun.nil0 pC (fun a cap hm => pB a cap hm)
theorem u0o (a b : List Int) (n m : Nat) (hn : List.length a = n) (hm : List.length b = m) (h2 : n ≤ 1000000) (h3 : m ≤ 1000000) : Fun 150 [.c (.d (D.sl (dI .i64 a) n)), .c (.d (D.sl (dI .i64 b) m))] (kF []) 0 (sV .i64 (zE a b m) (List.length (zE a b m))) (kF []) 0 := by
 refine Fun.mk (n := 24) Tryz.func150 rfl rfl (Nat.le_of_ble_eq_true rfl) ?_
 intro cx hcx
 refine kI [.no] True [(0, sV .i64 a n), (1, sV .i64 b m)] [] 0 trivial ?_
 refine kS [.no] True [(0, sV .i64 a n), (1, sV .i64 b m), (5, nV)] trivial ?_
 refine AW.seq ?_
 refine kS [.no, .no, .no] True [(1, sV .i64 b m), (5, nV), (8, sV .i64 a n), (9, uV n), (10, iV 0)] trivial ?_
 refine AW.block ?_
 refine AW.adoptS 5 1 3 rfl ?_
 refine qF 0 hcx (fun (x : {x : Nat × Nat × List Int // match x with | (i, k, o) => (i ≤ n ∧ k ≤ i) ∧ (CO a b m i o) ∧ (List.length o = k)}) => match x with | ⟨(i, k, o), _⟩ => (⟨[(1, sV .i64 b m), (5, oV 1 0 k 1), (8, sV .i64 a n), (9, uV n), (10, uV i)], [(1, some (3, .ds (dI .i64 o)))], 2⟩ : ES)) (fun x => match x with | ⟨(i, k, o), _⟩ => n - i) ⟨((0 : Nat), (0 : Nat), (([] : List Int) : List Int)), ⟨iL, (CO.zero a b m), rfl⟩⟩ [(1, 0)] (P := (kM (dI .i64 b)) ∧ (kH m) ∧ (kH 0) ∧ (kH 0) ∧ (kM (dI .i64 a)) ∧ (kH n) ∧ (kP (n : Int)) ∧ (kP 0) ∧ (((dI .i64 ([] : List Int)) : List D) = ([] : List D))) zk ⟨rfl, rfl, rfl, rfl, rfl, rfl, rfl, rfl, (by first | rfl | with_reducible assumption)⟩ ?_
 rintro ⟨⟨i, k, o⟩, hinv0⟩
 obtain ⟨hi, hC, ho⟩ : (i ≤ n ∧ k ≤ i) ∧ (CO a b m i o) ∧ (List.length o = k) := hinv0
 refine uG (l := [(1, sV .i64 b m), (5, oV 1 0 k 1), (8, sV .i64 a n), (9, uV n), (10, uV i)]) (g := [(1, some (3, .ds (dI .i64 o)))]) (nx := 2) rfl rfl rfl ?_
 by_cases hx1 : (((i : Nat) : Int) < ((n : Nat) : Int))
 ·refine kI [.b true] (((i : Int) < (n : Int))) [(1, sV .i64 b m), (5, oV 1 0 k 1), (8, sV .i64 a n), (9, uV n), (10, uV i), (11, bV true)] [(1, some (3, .ds (dI .i64 o)))] 2 zo ?_
  refine AW.seq ?_
  refine vO ?_
  refine AW.seq ?_
  refine AW.block ?_
  refine kS [.n i, .d (D.lit (.int .i64 (List.getD a i 0))), .no] ((kP (i : Int)) ∧ (i < n) ∧ ((List.drop i (dI .i64 a))[0]? = some (D.lit (.int .i64 (List.getD a i 0))))) [(1, sV .i64 b m), (5, oV 1 0 k 1), (7, iV (List.getD a i 0)), (8, sV .i64 a n), (9, uV n), (10, uV i)] ⟨rfl, zo, (yG _ _ _ cO)⟩ ?_
  by_cases hx3 : ((0 : Int) ≤ (uT b (List.getD a i 0) m))
  ·have hx4 : ((((-1) : Int) ≤ (uT b (List.getD a i 0) m)) ∧ ((uT b (List.getD a i 0) m) < ((m : Nat) : Int))) := bO b (List.getD a i 0) m
   refine kS [.no, .no, .call [] (iV (uT b (List.getD a i 0) m)) [] 0 [] none, .b true] ((_) ∧ (((0 : Int) ≤ (uT b (List.getD a i 0) m)))) [(1, sV .i64 b m), (5, oV 1 0 k 1), (7, iV (List.getD a i 0)), (8, sV .i64 a n), (9, uV n), (10, uV i), (17, bV true)] ⟨(mR b m (List.getD a i 0) zo zo), zo⟩ ?_
   refine zt ?_
   refine aB [.no, .no, .no, .ap none (k + 1) (dI .i64 (o ++ ([(List.getD a i 0)] : List Int))), .no] (([iD (List.getD a i 0)].length = 1 * 1) ∧ (((dI .i64 o) : List D).length = k * 1) ∧ ((k + 1) * 8 ≤ 140737488355328) ∧ (k + 1 = (k + 1)) ∧ (((dI .i64 o) : List D) ++ [iD (List.getD a i 0)] = (dI .i64 (o ++ ([(List.getD a i 0)] : List Int))))) [(1, sV .i64 b m), (5, oV 3 0 (k + 1) 1), (8, sV .i64 a n), (9, uV n), (10, uV i)] [(3, some (3, .ds (dI .i64 (o ++ ([(List.getD a i 0)] : List Int)))))] 4 ⟨cO, cO, zo, zo, (y4 .i64 o ([(List.getD a i 0)] : List Int))⟩ ?_
   refine yK [.w, .no] (yF ((i : Int) + 1)) [(1, sV .i64 b m), (5, oV 3 0 (k + 1) 1), (8, sV .i64 a n), (9, uV n), (10, iV (↑i + 1))] ⟨by omega, by omega⟩ ?_
   exact Rd.of ⟨(((i + 1) : Nat), ((k + 1) : Nat), ((o ++ ([(List.getD a i 0)] : List Int)) : List Int)), ⟨iL, (by first | exact hC.y zo rfl zo | exact hC.n zo zo), (by first | assumption | (simp only [uU, fZ, eN, List.length_append, List.length_cons, List.length_nil] <;> omega))⟩⟩ [(1, 3)] (P := (kM (dI .i64 b)) ∧ (kH m) ∧ (kH 0) ∧ (kH (k + 1)) ∧ (kM (dI .i64 a)) ∧ (kH n) ∧ (kP (n : Int)) ∧ (cU i) ∧ (kM (dI .i64 (o ++ ([(List.getD a i 0)] : List Int))))) zk ⟨rfl, rfl, rfl, rfl, rfl, rfl, rfl, wO, rfl⟩ (show n - (i + 1) < n - i from wN)
  ·have hx5 : ((((-1) : Int) ≤ (uT b (List.getD a i 0) m)) ∧ ((uT b (List.getD a i 0) m) < ((m : Nat) : Int))) := bO b (List.getD a i 0) m
   refine kS [.no, .no, .call [] (iV (uT b (List.getD a i 0) m)) [] 0 [] none, .b false] ((_) ∧ (¬ ((0 : Int) ≤ (uT b (List.getD a i 0) m)))) [(1, sV .i64 b m), (5, oV 1 0 k 1), (7, iV (List.getD a i 0)), (8, sV .i64 a n), (9, uV n), (10, uV i), (17, bV false)] ⟨(mR b m (List.getD a i 0) zo zo), zo⟩ ?_
   refine u9 ?_
   refine yK [.w, .no] (yF ((i : Int) + 1)) [(1, sV .i64 b m), (5, oV 1 0 k 1), (8, sV .i64 a n), (9, uV n), (10, iV (↑i + 1))] ⟨by omega, by omega⟩ ?_
   exact Rd.of ⟨(((i + 1) : Nat), (k : Nat), (o : List Int)), ⟨iL, (by first | exact hC.y zo rfl zo | exact hC.n zo zo), (by first | assumption | (simp only [uU, fZ, eN, List.length_append, List.length_cons, List.length_nil] <;> omega))⟩⟩ [] (P := (kM (dI .i64 b)) ∧ (kH m) ∧ (kH 0) ∧ (kH k) ∧ (kM (dI .i64 a)) ∧ (kH n) ∧ (kP (n : Int)) ∧ (cU i) ∧ (kM (dI .i64 o))) zk ⟨rfl, rfl, rfl, rfl, rfl, rfl, rfl, wO, rfl⟩ (show n - (i + 1) < n - i from wN)
 ·refine kI [.b false] (¬ ((i : Int) < (n : Int))) [(1, sV .i64 b m), (5, oV 1 0 k 1), (8, sV .i64 a n), (9, uV n), (10, uV i), (11, bV false)] [(1, some (3, .ds (dI .i64 o)))] 2 zo ?_
  refine AW.seq ?_
  refine zf ?_
  refine AW.exit ?_
  refine kI [.no, .no] True [(4, oV 1 0 k 1)] [(1, some (3, .ds (dI .i64 o)))] 2 trivial ?_
  have hz1 : o = zE a b m := hC.fin (by omega)
  have hz2 : List.length (zE a b m) = k := by rw [← hz1]; omega
  refine AW.freeze 1 (l' := [(4, sV .i64 o k)]) (g' := []) rfl (FzS.cons rfl (.e (.c (@FzC.own 1 ((dI .i64 o) : List D) 0 k 1 true ((dI .i64 o) : List D) (by rw [List.drop_zero, Nat.mul_one, List.take_of_length_le (by first | omega | (simp only [uU, fZ, eN, qV, List.length_append, List.length_cons, List.length_nil, List.length_take, List.length_drop, List.length_replicate, List.length_set, List.length_map, List.length_reverse, Nat.mul_one] <;> omega))]) cO))) FzS.nil) FzG.nil ?_
  refine AW.ret ?_
  exact EndP.of (.inr rfl) [] (P := (((dI .i64 (zE a b m)) : List D) = (dI .i64 o)) ∧ (((List.length (zE a b m)) : Nat) = k)) zk ⟨(by first | rfl | exact congrArg _ hz1.symm), (by first | omega | rfl | assumption | (simp; done) | (simp; omega))⟩
theorem zZ (a b : List Int) (n m : Nat) (hn : List.length a = n) (hm : List.length b = m) (h2 : n ≤ 1000000) (h3 : m ≤ 1000000) : Fun 83 [.c (.d (D.sl (dI .i64 a) n)), .c (.d (D.sl (dI .i64 b) m))] (kF []) 0 (u1 (D.lit (.bool (bL a b)))) (kF []) 0 := by
 refine Fun.mk (n := 26) Tryz.func83 rfl rfl (Nat.le_of_ble_eq_true rfl) ?_
 intro cx hcx
 refine kI [.no] True [(0, sV .i64 a n), (1, sV .i64 b m)] [] 0 trivial ?_
 refine AW.seq ?_
 by_cases hx1 : (((n : Nat) : Int) ≠ ((m : Nat) : Int))
 ·refine kS (qN 4 [.b true]) (((n : Int) ≠ (m : Int))) [(0, sV .i64 a n), (1, sV .i64 b m), (10, bV true)] zo ?_
  refine zt ?_
  refine kS [.no] True [(4, bV false)] trivial ?_
  refine AW.ret ?_
  exact EndP.of (.inr rfl) [] (P := ((bL a b) = false)) zk (by first | exact k5n zo | exact k5m (k := k) zo | exact k5k zo (fun j hj => ha j zo))
 ·refine kS (qN 4 [.b false]) (¬ ((n : Int) ≠ (m : Int))) [(0, sV .i64 a n), (1, sV .i64 b m), (10, bV false)] zo ?_
  refine u9 ?_
  refine AW.seq ?_
  refine kS [.no, .no, .no] True [(0, sV .i64 a n), (1, sV .i64 b m), (12, uV n), (13, iV 0)] trivial ?_
  refine AW.block ?_
  refine qF 0 hcx (fun (x : {x : Nat // match x with | k => (k ≤ n) ∧ (∀ j, j < k → List.getD a j 0 = List.getD b j 0)}) => match x with | ⟨k, _⟩ => (⟨[(0, sV .i64 a n), (1, sV .i64 b m), (12, uV n), (13, uV k)], [], 0⟩ : ES)) (fun x => match x with | ⟨k, _⟩ => n - k) ⟨(0 : Nat), ⟨iL, (fun j hj => absurd hj (Nat.not_lt_zero j))⟩⟩ [] (P := (kM (dI .i64 a)) ∧ (kH n) ∧ (kM (dI .i64 b)) ∧ (kH m) ∧ (kP (n : Int)) ∧ (kP 0)) zk ⟨rfl, rfl, rfl, rfl, rfl, rfl⟩ ?_
  rintro ⟨k, hinv0⟩
  obtain ⟨hk, ha⟩ : (k ≤ n) ∧ (∀ j, j < k → List.getD a j 0 = List.getD b j 0) := hinv0
  refine uG (l := [(0, sV .i64 a n), (1, sV .i64 b m), (12, uV n), (13, uV k)]) (g := []) (nx := 0) rfl rfl rfl ?_
  by_cases hx2 : (((k : Nat) : Int) < ((n : Nat) : Int))
  ·refine kI [.b true] (((k : Int) < (n : Int))) [(0, sV .i64 a n), (1, sV .i64 b m), (12, uV n), (13, uV k), (14, bV true)] [] 0 zo ?_
   refine AW.seq ?_
   refine vO ?_
   refine AW.seq ?_
   refine AW.block ?_
   refine kS [.no, .no] True [(0, sV .i64 a n), (1, sV .i64 b m), (5, uV k), (12, uV n), (13, uV k)] trivial ?_
   by_cases hx3 : ((List.getD a k 0) ≠ (List.getD b k 0))
   ·refine kS [.no, .no, .n k, .d (D.lit (.int .i64 (List.getD a k 0))), .no, .no, .n k, .d (D.lit (.int .i64 (List.getD b k 0))), .b true] ((kP (k : Int)) ∧ (k < n) ∧ ((List.drop k (dI .i64 a))[0]? = some (D.lit (.int .i64 (List.getD a k 0)))) ∧ (kP (k : Int)) ∧ (k < m) ∧ ((List.drop k (dI .i64 b))[0]? = some (D.lit (.int .i64 (List.getD b k 0)))) ∧ (((List.getD a k 0) ≠ (List.getD b k 0)))) [(0, sV .i64 a n), (1, sV .i64 b m), (12, uV n), (13, uV k), (24, bV true)] ⟨rfl, zo, (yG _ _ _ cO), rfl, zo, (yG _ _ _ cO), zo⟩ ?_
    refine zt ?_
    refine kS [.no] True [(4, bV false)] trivial ?_
    refine AW.ret ?_
    exact EndP.of (.inr rfl) [] (P := ((bL a b) = false)) zk (by first | exact k5n zo | exact k5m (k := k) zo | exact k5k zo (fun j hj => ha j zo))
   ·refine kS [.no, .no, .n k, .d (D.lit (.int .i64 (List.getD a k 0))), .no, .no, .n k, .d (D.lit (.int .i64 (List.getD b k 0))), .b false] ((kP (k : Int)) ∧ (k < n) ∧ ((List.drop k (dI .i64 a))[0]? = some (D.lit (.int .i64 (List.getD a k 0)))) ∧ (kP (k : Int)) ∧ (k < m) ∧ ((List.drop k (dI .i64 b))[0]? = some (D.lit (.int .i64 (List.getD b k 0)))) ∧ (¬ ((List.getD a k 0) ≠ (List.getD b k 0)))) [(0, sV .i64 a n), (1, sV .i64 b m), (12, uV n), (13, uV k), (24, bV false)] ⟨rfl, zo, (yG _ _ _ cO), rfl, zo, (yG _ _ _ cO), zo⟩ ?_
    refine u9 ?_
    refine yK [.w, .no] (yF ((k : Int) + 1)) [(0, sV .i64 a n), (1, sV .i64 b m), (12, uV n), (13, iV (↑k + 1))] ⟨by omega, by omega⟩ ?_
    exact Rd.of ⟨((k + 1) : Nat), ⟨iL, (fun j hj => (Nat.lt_succ_iff_lt_or_eq.1 hj).elim (ha j) (fun e9 => by subst e9; omega))⟩⟩ [] (P := (kM (dI .i64 a)) ∧ (kH n) ∧ (kM (dI .i64 b)) ∧ (kH m) ∧ (kP (n : Int)) ∧ (cU k)) zk ⟨rfl, rfl, rfl, rfl, rfl, wO⟩ (show n - (k + 1) < n - k from wN)
  ·refine kI [.b false] (¬ ((k : Int) < (n : Int))) [(0, sV .i64 a n), (1, sV .i64 b m), (12, uV n), (13, uV k), (14, bV false)] [] 0 zo ?_
   refine AW.seq ?_
   refine zf ?_
   refine AW.exit ?_
   refine kI [.no] True [(4, bV true)] [] 0 trivial ?_
   refine AW.ret ?_
   exact EndP.of (.inr rfl) [] (P := ((bL a b) = true)) zk (by first | exact k5n zo | exact k5m (k := k) zo | exact k5k zo (fun j hj => ha j zo))
theorem t9 (a b : List Int) (n m : Nat) (hn : List.length a = n) (hm : List.length b = m) (h2 : n ≤ 1000000) (h3 : m ≤ 1000000) : Fun 52 [.c (.d (D.sl (dI .i64 a) n)), .c (.d (D.sl (dI .i64 b) m))] (kF []) 0 (u1 (D.lit (.bool (bL a b)))) (kF []) 0 := by
 refine Fun.mk (n := 8) Tryz.func52 rfl rfl (Nat.le_of_ble_eq_true rfl) ?_
 intro cx hcx
 refine kI [.no] True [(0, sV .i64 a n), (1, sV .i64 b m)] [] 0 trivial ?_
 rcases Bool.eq_false_or_eq_true (bL a b) with hx1 | hx1
 ·refine kS [.no, .no, .call [] (bV true) [] 0 [] none, .no] (Fun 83 [.c (.d (dl a n)), .c (.d (dl b m))] (kF []) 0 (bV true) (kF []) 0) [(4, bV true)] (by have h0 := (zZ a b n m zo zo zo zo); rw [hx1] at h0; exact h0) ?_
  refine AW.ret ?_
  exact EndP.of (.inr rfl) [] (P := ((bL a b) = true)) zk wP
 ·refine kS [.no, .no, .call [] (bV false) [] 0 [] none, .no] (Fun 83 [.c (.d (dl a n)), .c (.d (dl b m))] (kF []) 0 (bV false) (kF []) 0) [(4, bV false)] (by have h0 := (zZ a b n m zo zo zo zo); rw [hx1] at h0; exact h0) ?_
  refine AW.ret ?_
  exact EndP.of (.inr rfl) [] (P := ((bL a b) = false)) zk wP
end Go.Proofs.YtbicifcgghmhaaaGreat
