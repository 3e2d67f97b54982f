/- Merged texts. -/
import Derived.Test.YtbicifcgghmhaaaGreatZLBy
namespace Go.Proofs.YtbicifcgghmhaaaGreat
open Go.ChangeShapes Go.WideShapes Go.ChangeAt Go.RowKit
set_option linter.unusedVariables false
set_option linter.unusedSimpArgs false
def stD (xs : List (List Int)) : List D := xs.map fun l => D.lit (.string (strOfNums l))
theorem rI (xs : List (List Int)) : (stD xs).length = xs.length := by unfold stD; simp
/-! names of positions, texts of maps -/
def bK (l : List Int) : Int :=
  if l = [70, 76] then 1 else if l = [70, 82] then 2 else if l = [70, 67] then 3 else if l = [76, 70] then 4 else if l = [66, 76] then 5 else if l = [66, 82] then 6 else if l = [83, 76] then 7 else if l = [83, 82] then 8 else 0
def tV (p : Int) : List Int :=
  if p = 1 then [70, 76] else if p = 2 then [70, 82] else if p = 3 then [70, 67] else if p = 4 then [76, 70] else if p = 5 then [66, 76] else if p = 6 then [66, 82] else if p = 7 then [83, 76] else if p = 8 then [83, 82] else [63]
theorem rT (l : List Int) : 0 ≤ bK l ∧ bK l ≤ 8 := by
  unfold bK; (repeat' split) <;> omega
theorem k9l {p : Int} (h : 1 ≤ p ∧ p ≤ 8) : p = 1 ∨ p = 2 ∨ p = 3 ∨ p = 4 ∨ p = 5 ∨ p = 6 ∨ p = 7 ∨ p = 8 := by omega
theorem k69 {l : List Int} (h : ¬ bK l = 0) : tV (bK l) = l := by
  by_cases h1 : l = [70, 76]
  · subst h1; decide
  by_cases h2 : l = [70, 82]
  · subst h2; decide
  by_cases h3 : l = [70, 67]
  · subst h3; decide
  by_cases h4 : l = [76, 70]
  · subst h4; decide
  by_cases h5 : l = [66, 76]
  · subst h5; decide
  by_cases h6 : l = [66, 82]
  · subst h6; decide
  by_cases h7 : l = [83, 76]
  · subst h7; decide
  by_cases h8 : l = [83, 82]
  · subst h8; decide
  exact absurd (by unfold bK; rw [if_neg h1, if_neg h2, if_neg h3, if_neg h4, if_neg h5, if_neg h6, if_neg h7, if_neg h8]) h
theorem k6a {p : Int} (h : 1 ≤ p ∧ p ≤ 8) : (tV p).length = 2 := by
  rcases k9l h with rfl | rfl | rfl | rfl | rfl | rfl | rfl | rfl <;> rfl
theorem k68 {l : List Int} (h : ¬ bK l = 0) : l.length = 2 := by
  have h1 := k69 h
  rw [← h1]; exact k6a (by have := rT l; omega)
def fmT : List Int → List Int
  | [] => []
  | p :: r => [44] ++ tV p ++ fmT r
def fmL : List Int → List Int
  | [] => []
  | p :: r => tV p ++ fmT r
theorem k2l : ∀ a b : List Int, fmT (a ++ b) = fmT a ++ fmT b
  | [], b => rfl
  | p :: r, b => by show [44] ++ tV p ++ fmT (r ++ b) = [44] ++ tV p ++ fmT r ++ fmT b; rw [k2l r b, List.append_assoc ([44] ++ tV p)]
theorem k81 {a : List Int} {p : Int} (h : 1 ≤ a.length) : fmL (a ++ [p]) = fmL a ++ [44] ++ tV p := by
  cases a with
  | nil => exact absurd h (by decide)
  | cons x r =>
    show tV x ++ fmT (r ++ [p]) = tV x ++ fmT r ++ [44] ++ tV p
    rw [k2l]
    show tV x ++ (fmT r ++ ([44] ++ tV p ++ [])) = _
    simp only [List.append_nil, List.append_assoc]
theorem dJ {m : List Int} {i : Nat} (h : i < m.length) : List.take (i + 1) m = List.take i m ++ [List.getD m i 0] := by
  rw [List.take_add_one, List.getElem?_eq_getElem h, List.getD_eq_getElem?_getD, List.getElem?_eq_getElem h]; rfl
def FB (m : List Int) (i : Nat) (b : List Int) : Prop := b = fmL (List.take i m)
theorem FB.zero (m : List Int) : FB m 0 [] := rfl
theorem FB.one {m b : List Int} (h : 0 < m.length) (hb : b = tV (List.getD m 0 0)) : FB m (0 + 1) b := by
  unfold FB; rw [dJ h, hb]; show _ = tV _ ++ []; rw [List.append_nil]
theorem FB.step {m b c q : List Int} {i : Nat} (h : FB m i b) (h1 : 1 ≤ i) (hi : i < m.length) (hq : q = tV (List.getD m i 0)) (hc : c = b ++ [44] ++ q) : FB m (i + 1) c := by
  unfold FB at *
  rw [dJ hi, k81 (by rw [List.length_take]; omega), ← h, ← hq, hc]
theorem FB.fin {m b : List Int} {i : Nat} (h : FB m i b) (hi : m.length ≤ i) : b = fmL m := by
  unfold FB at h; rw [List.take_of_length_le hi] at h; exact h
theorem FB.z {m b : List Int} {i : Nat} (h : FB m i b) (h0 : i = 0) : b = [] := by subst h0; exact h
/-! a text in parts -/
def tT : List Int → List (List Int)
  | [] => [[]]
  | x :: r => if x = 44 then [] :: tT r else match tT r with
    | [] => [[x]]
    | w :: ws => (x :: w) :: ws
theorem u6z : ∀ l, tT l ≠ []
  | [] => by simp [tT]
  | x :: r => by
    unfold tT
    split
    · simp
    · split <;> simp
def prF : Nat → List Int → Option (List Int)
  | 0, _ => none
  | n + 1, s => match s with
    | a :: b :: r => if bK [a, b] = 0 then none else match r with
      | [] => some [bK [a, b]]
      | c :: r2 => if c = 44 then (prF n r2).map (bK [a, b] :: ·) else none
    | _ => none
def wJ : List (List Int) → Option (List Int)
  | [] => some []
  | w :: ws => if bK w = 0 then none else (wJ ws).map (bK w :: ·)
theorem v16 (a : Int) : bK [a] = 0 := Decidable.byContradiction fun h => by have := k68 h; simp at this
theorem k06 : bK [] = 0 := by decide
theorem v4r (a b c : Int) (r : List Int) : bK (a :: b :: c :: r) = 0 := Decidable.byContradiction fun h => by have := k68 h; simp at this
theorem v15 (b : Int) : bK [44, b] = 0 := Decidable.byContradiction fun h => by
  have h1 := k69 h
  rcases k9l (show 1 ≤ bK [44, b] ∧ bK [44, b] ≤ 8 by have := rT [44, b]; omega) with e | e | e | e | e | e | e | e <;> (rw [e] at h1; revert h1; simp [tV])
theorem v14 (a : Int) : bK [a, 44] = 0 := Decidable.byContradiction fun h => by
  have h1 := k69 h
  rcases k9l (show 1 ≤ bK [a, 44] ∧ bK [a, 44] ≤ 8 by have := rT [a, 44]; omega) with e | e | e | e | e | e | e | e <;> (rw [e] at h1; revert h1; simp [tV])
theorem k1g (r : List Int) : tT (44 :: r) = [] :: tT r := by rw [tT]; rfl
theorem k1f {x : Int} (h : ¬ x = 44) (r : List Int) : ∃ w ws, tT r = w :: ws ∧ tT (x :: r) = (x :: w) :: ws := by
  cases e : tT r with
  | nil => exact absurd e (u6z r)
  | cons w ws => exact ⟨w, ws, rfl, by rw [tT, if_neg h, e]⟩
theorem u4r : ∀ (n : Nat) (s : List Int), s.length < n → wJ (tT s) = prF n s
  | 0, s, h => absurd h (Nat.not_lt_zero _)
  | n + 1, [], _ => by
    show (if bK [] = 0 then none else _) = none
    rw [if_pos k06]
  | n + 1, [a], _ => by
    show wJ (tT [a]) = none
    by_cases ha : a = 44
    · subst ha; rw [k1g]; show (if bK [] = 0 then none else _) = none; rw [if_pos k06]
    · obtain ⟨w, ws, e1, e2⟩ := k1f ha []
      have e3 : w = [] := by
        have : tT [] = [[]] := rfl
        rw [this] at e1; simp at e1; exact e1.1
      rw [e2, e3]; show (if bK [a] = 0 then none else _) = none; rw [if_pos (v16 a)]
  | n + 1, a :: b :: r, h => by
    show _ = (if bK [a, b] = 0 then none else match r with
      | [] => some [bK [a, b]]
      | c :: r2 => if c = 44 then (prF n r2).map (bK [a, b] :: ·) else none)
    by_cases ha : a = 44
    · subst ha
      rw [k1g, if_pos (v15 b)]; show (if bK [] = 0 then none else _) = none; rw [if_pos k06]
    · obtain ⟨w, ws, e1, e2⟩ := k1f ha (b :: r)
      rw [e2]
      by_cases hb : b = 44
      · subst hb
        rw [k1g] at e1
        have e3 : w = [] := by simp at e1; exact e1.1
        rw [e3, if_pos (v14 a)]; show (if bK [a] = 0 then none else _) = none; rw [if_pos (v16 a)]
      · obtain ⟨w2, ws2, e3, e4⟩ := k1f hb r
        rw [e4] at e1
        simp only [List.cons.injEq] at e1
        obtain ⟨rfl, rfl⟩ := e1
        cases r with
        | nil =>
          have e5 : tT [] = [[]] := rfl
          rw [e5] at e3
          simp only [List.cons.injEq] at e3
          obtain ⟨rfl, rfl⟩ := e3
          show (if bK [a, b] = 0 then none else some [bK [a, b]]) = _
          rfl
        | cons c r2 =>
          by_cases hc : c = 44
          · subst hc
            rw [k1g] at e3
            simp only [List.cons.injEq] at e3
            obtain ⟨rfl, rfl⟩ := e3
            show (if bK [a, b] = 0 then none else (wJ (tT r2)).map (bK [a, b] :: ·)) = _
            rw [u4r n r2 (by simp at h; omega)]
            rfl
          · obtain ⟨w3, ws3, e5, e6⟩ := k1f hc r2
            rw [e6] at e3
            simp only [List.cons.injEq] at e3
            obtain ⟨rfl, rfl⟩ := e3
            show (if bK (a :: b :: c :: w3) = 0 then none else _) = _
            rw [if_pos (v4r a b c w3)]
            show none = (if bK [a, b] = 0 then none else if c = 44 then _ else none)
            rw [if_neg hc]
            split <;> rfl
def rdP (s : List Int) : Option (List Int) := wJ (tT s)
/-! places -/
def uH (l : List Int) (v : Int) : Nat → Int
  | 0 => -1
  | k + 1 => if 0 ≤ uH l v k then uH l v k else if List.getD l k 0 = v then (k : Int) else -1
theorem k3w {l : List Int} {v : Int} {k : Nat} (h : uH l v k = -1) (h2 : ¬ List.getD l k 0 = v) : uH l v (k + 1) = -1 := by
  show (if 0 ≤ uH l v k then _ else _) = _
  rw [if_neg (by omega), if_neg h2]
theorem xG {l : List Int} {v : Int} {k : Nat} (h : uH l v k = -1) (h2 : List.getD l k 0 = v) : ∀ n, k < n → uH l v n = (k : Int)
  | n + 1, hn => by
    by_cases hk : k = n
    · subst hk
      show (if 0 ≤ uH l v k then _ else _) = _
      rw [if_neg (by omega), if_pos h2]
    · have := xG h h2 n (by omega)
      show (if 0 ≤ uH l v n then _ else _) = _
      rw [if_pos (by omega)]; exact this
theorem bG (l : List Int) (v : Int) : ∀ n, -1 ≤ uH l v n ∧ uH l v n < (n : Int)
  | 0 => by show (-1 : Int) ≤ -1 ∧ (-1 : Int) < 0; omega
  | k + 1 => by
    have := bG l v k
    show -1 ≤ (if 0 ≤ uH l v k then _ else _) ∧ (if 0 ≤ uH l v k then _ else _) < _
    split
    · omega
    · split <;> omega
theorem k75 {l : List Int} {v : Int} : v ∈ l ↔ ∃ j, j < l.length ∧ List.getD l j 0 = v := by
  constructor
  · intro h
    obtain ⟨j, hj, e⟩ := List.mem_iff_getElem.1 h
    exact ⟨j, hj, by rw [List.getD_eq_getElem?_getD, List.getElem?_eq_getElem hj]; exact e⟩
  · rintro ⟨j, hj, e⟩
    rw [List.getD_eq_getElem?_getD, List.getElem?_eq_getElem hj] at e
    have e : l[j] = v := e
    rw [← e]; exact List.getElem_mem hj
/-! valid maps -/
def chE (l : List Int) (n j : Nat) : Bool := decide (1 ≤ List.getD l j 0 ∧ List.getD l j 0 ≤ 8 ∧ uH l (List.getD l j 0) n = (j : Int))
def t4 (l : List Int) (n : Nat) : Bool := decide (1 ≤ n ∧ n ≤ 8) && (List.range n).all (chE l n)
theorem v2s {l : List Int} {n : Nat} (h1 : 1 ≤ n ∧ n ≤ 8) (h : ∀ j, j < n → chE l n j = true) : t4 l n = true :=
  Bool.and_eq_true_iff.2 ⟨decide_eq_true h1, List.all_eq_true.2 fun j hj => h j (List.mem_range.1 hj)⟩
theorem u5w {l : List Int} {n : Nat} (h1 : ¬ (1 ≤ n ∧ n ≤ 8)) : t4 l n = false := by unfold t4; rw [decide_eq_false h1]; rfl
theorem u5v {l : List Int} {n k : Nat} (hk : k < n) (h : chE l n k = false) : t4 l n = false := by
  cases hb : t4 l n with
  | false => rfl
  | true =>
    have := List.all_eq_true.1 (Bool.and_eq_true_iff.1 hb).2 k (List.mem_range.2 hk)
    rw [h] at this; cases this
/-! the code: after so many pieces -/
def PA (L : List (List Int)) (i : Nat) (m : List Int) : Prop := wJ (List.take i L) = some m
theorem k1u : ∀ (a b : List (List Int)), wJ (a ++ b) = (wJ a).bind fun x => (wJ b).map (x ++ ·)
  | [], b => by show wJ b = (wJ b).map _; cases wJ b <;> rfl
  | w :: a, b => by
    show (if bK w = 0 then none else (wJ (a ++ b)).map (bK w :: ·)) = (if bK w = 0 then none else (wJ a).map (bK w :: ·)).bind _
    by_cases h : bK w = 0
    · rw [if_pos h, if_pos h]; rfl
    · rw [if_neg h, if_neg h, k1u a b]
      cases wJ a with
      | none => rfl
      | some x => cases wJ b <;> rfl
theorem PA.zero (L : List (List Int)) : PA L 0 [] := rfl
theorem z4 {m : List (List Int)} {i : Nat} (h : i < m.length) : List.take (i + 1) m = List.take i m ++ [List.getD m i []] := by
  rw [List.take_add_one, List.getElem?_eq_getElem h, List.getD_eq_getElem?_getD, List.getElem?_eq_getElem h]; rfl
theorem PA.step {L : List (List Int)} {i : Nat} {m : List Int} {p : Int} (h : PA L i m) (hi : i < L.length) (hp : ¬ bK (List.getD L i []) = 0) (hq : p = bK (List.getD L i [])) : PA L (i + 1) (m ++ [p]) := by
  unfold PA at *
  rw [z4 hi, k1u, h]
  show (if _ then none else _ : Option (List Int)).map _ = _
  rw [if_neg hp, hq]; rfl
theorem PA.fin {L : List (List Int)} {i : Nat} {m : List Int} (h : PA L i m) (hi : L.length ≤ i) : wJ L = some m := by
  unfold PA at h; rw [List.take_of_length_le hi] at h; exact h
/-! the reference: at a place -/
def PR (s : List Int) (a : Nat) (m : List Int) : Prop := ∀ n, s.length < n → prF n s = (prF (n - m.length) (List.drop a s)).map (m ++ ·)
theorem PR.zero (s : List Int) : PR s 0 [] := fun n h => by
  show prF n s = (prF n s).map _
  cases prF n s <;> rfl
theorem k55 {s : List Int} {a : Nat} (h : a + 2 ≤ s.length) : List.drop a s = List.getD s a 0 :: List.getD s (a + 1) 0 :: List.drop (a + 2) s := by
  rw [List.drop_eq_getElem_cons (by omega), List.drop_eq_getElem_cons (show a + 1 < s.length by omega)]
  rw [List.getD_eq_getElem?_getD, List.getElem?_eq_getElem (by omega), List.getD_eq_getElem?_getD, List.getElem?_eq_getElem (by omega)]; rfl
theorem k59 {s : List Int} {a : Nat} (h : a + 2 ≤ s.length) : List.take 2 (List.drop a s) = [List.getD s a 0, List.getD s (a + 1) 0] := by
  rw [k55 h]; rfl
theorem k1r {n a : Nat} {s : List Int} (h : a + 2 ≤ s.length) : prF (n + 1) (List.drop a s) = if bK (List.take 2 (List.drop a s)) = 0 then none else match List.drop (a + 2) s with
      | [] => some [bK (List.take 2 (List.drop a s))]
      | c :: r2 => if c = 44 then (prF n r2).map (bK (List.take 2 (List.drop a s)) :: ·) else none := by
  rw [k59 h, k55 h]; rfl
theorem PR.last {s : List Int} {a : Nat} {m : List Int} {p : Int} (h : PR s a m) (hm : 3 * m.length = a) (h2 : s.length = a + 2) (hp : ¬ bK (List.take 2 (List.drop a s)) = 0) (hq : p = bK (List.take 2 (List.drop a s))) : rdP s = some (m ++ [p]) := by
  unfold rdP
  rw [u4r _ _ (Nat.lt_succ_self _), h _ (Nat.lt_succ_self _)]
  obtain ⟨n, hn⟩ : ∃ n, s.length + 1 - m.length = n + 1 := ⟨s.length - m.length, by omega⟩
  rw [hn, k1r (by omega), if_neg hp, List.drop_eq_nil_of_le (by omega), hq]; rfl
theorem PR.step {s : List Int} {a : Nat} {m : List Int} {p : Int} (h : PR s a m) (hm : 3 * m.length = a) (h2 : a + 2 < s.length) (hc : List.getD s (a + 2) 0 = 44) (hp : ¬ bK (List.take 2 (List.drop a s)) = 0) (hq : p = bK (List.take 2 (List.drop a s))) : PR s (a + 3) (m ++ [p]) := fun n hn => by
  rw [h n hn]
  obtain ⟨k, hk⟩ : ∃ k, n - m.length = k + 1 := ⟨n - m.length - 1, by omega⟩
  rw [hk, k1r (by omega), if_neg hp, List.drop_eq_getElem_cons h2]
  rw [List.getD_eq_getElem?_getD, List.getElem?_eq_getElem h2] at hc
  have hc : s[a + 2] = 44 := hc
  show (if _ then _ else none : Option (List Int)).map _ = _
  rw [if_pos hc, hq, List.length_append, show n - (m.length + [bK (List.take 2 (List.drop a s))].length) = k by simp only [List.length_cons, List.length_nil]; omega, show a + 2 + 1 = a + 3 by omega]
  cases prF k (List.drop (a + 3) s) with
  | none => rfl
  | some x =>
    show some (m ++ (bK (List.take 2 (List.drop a s)) :: x)) = some (m ++ [bK (List.take 2 (List.drop a s))] ++ x)
    rw [List.append_assoc]; rfl
end Go.Proofs.YtbicifcgghmhaaaGreat
namespace Go.Proofs.YtbicifcgghmhaaaGreat
open Go.ChangeShapes Go.WideShapes Go.ChangeAt Go.RowKit
set_option linter.unusedVariables false
set_option linter.unusedSimpArgs false
/-! sorted lists -/
def stL (l : List Int) : List Int := l.mergeSort fun x y => decide (x ≤ y)
theorem mQ (l : List Int) : (stL l).Perm l := List.mergeSort_perm _ _
theorem lT (l : List Int) : (stL l).length = l.length := (mQ l).length_eq
theorem k5d (l : List Int) : (stL l).Pairwise (· ≤ ·) := by
  have h := List.pairwise_mergeSort (le := fun (x y : Int) => decide (x ≤ y)) (fun a b c h1 h2 => decide_eq_true (by have := of_decide_eq_true h1; have := of_decide_eq_true h2; omega)) (fun a b => by
    rw [Bool.or_eq_true]
    rcases Int.le_total a b with h | h
    · exact .inl (decide_eq_true h)
    · exact .inr (decide_eq_true h)) l
  exact h.imp fun h => of_decide_eq_true h
theorem k3k {a b : List Int} (h : a.Perm b) (ha : a.Pairwise (· ≤ ·)) (hb : b.Pairwise (· ≤ ·)) : a = b :=
  List.Perm.eq_of_pairwise (le := (· ≤ ·)) (fun x y _ _ h1 h2 => by omega) ha hb h
theorem u1j : stL [] = [] := by unfold stL; exact List.mergeSort_nil
def SO (m : List Int) (i : Nat) (out : List Int) : Prop := out = stL (List.take i m)
theorem SO.zero (m : List Int) : SO m 0 [] := u1j.symm
theorem SO.len {m out : List Int} {i : Nat} (h : SO m i out) (hi : i ≤ m.length) : out.length = i := by
  unfold SO at h; rw [h, lT, List.length_take]; omega
theorem SO.fin {m out : List Int} {i : Nat} (h : SO m i out) (hi : m.length ≤ i) : out = stL m := by
  unfold SO at h; rw [List.take_of_length_le hi] at h; exact h
theorem u2k {l : List Int} (h : l.Pairwise (· ≤ ·)) {i j : Nat} (hij : i ≤ j) (hj : j < l.length) : List.getD l i 0 ≤ List.getD l j 0 := by
  rcases Nat.lt_or_ge i j with h1 | h1
  · rw [List.getD_eq_getElem?_getD, List.getElem?_eq_getElem (by omega), List.getD_eq_getElem?_getD, List.getElem?_eq_getElem hj]
    exact List.pairwise_iff_getElem.1 h i j (by omega) hj h1
  · rw [show i = j by omega]; exact Int.le_refl _
theorem wU {l : List Int} {k : Nat} {x : Int} (h : x ∈ List.take k l) : ∃ j, j < k ∧ j < l.length ∧ List.getD l j 0 = x := by
  obtain ⟨j, hj, e⟩ := k75.1 h
  rw [List.length_take] at hj
  exact ⟨j, by omega, by omega, by rw [← e, k3x (by omega)]⟩
theorem lC {l : List Int} {k : Nat} {x : Int} (h : x ∈ List.drop k l) : ∃ j, k ≤ j ∧ j < l.length ∧ List.getD l j 0 = x := by
  obtain ⟨j, hj, e⟩ := k75.1 h
  rw [List.length_drop] at hj
  exact ⟨k + j, by omega, by omega, by rw [← e, dN]⟩
theorem k0l {out : List Int} {k : Nat} {p : Int} (h : out.Pairwise (· ≤ ·)) (hk : k ≤ out.length) (h1 : ∀ j, k ≤ j → j < out.length → p < List.getD out j 0) (h2 : k = 0 ∨ List.getD out (k - 1) 0 ≤ p) : (List.take k out ++ [p] ++ List.drop k out).Pairwise (· ≤ ·) := by
  rw [List.append_assoc, List.pairwise_append]
  refine ⟨h.sublist (List.take_sublist _ _), ?_, ?_⟩
  · show (p :: List.drop k out).Pairwise _
    refine List.Pairwise.cons (fun x hx => ?_) (h.sublist (List.drop_sublist _ _))
    obtain ⟨j, j1, j2, rfl⟩ := lC hx
    have := h1 j j1 j2; omega
  · intro x hx y hy
    obtain ⟨j, j1, j2, rfl⟩ := wU hx
    have h3 : List.getD out j 0 ≤ p := by
      rcases h2 with h2 | h2
      · omega
      · have := u2k h (show j ≤ k - 1 by omega) (show k - 1 < out.length by omega); omega
    rcases List.mem_cons.1 (show y ∈ p :: List.drop k out from hy) with rfl | hy
    · exact h3
    · obtain ⟨q, q1, q2, rfl⟩ := lC hy
      have := h1 q q1 q2; omega
theorem k7s (out : List Int) (k : Nat) (p : Int) : (List.take k out ++ [p] ++ List.drop k out).Perm (out ++ [p]) := by
  rw [List.append_assoc]
  refine (List.Perm.append_left _ List.perm_append_comm).trans ?_
  rw [← List.append_assoc, List.take_append_drop]
theorem SO.step {m out q : List Int} {i k : Nat} {p : Int} (h : SO m i out) (hi : i < m.length) (hp : p = List.getD m i 0) (hk : k ≤ out.length) (h1 : ∀ j, k ≤ j → j < out.length → p < List.getD out j 0) (h2 : k = 0 ∨ List.getD out (k - 1) 0 ≤ p) (hq : q = List.take k out ++ [p] ++ List.drop k out) : SO m (i + 1) q := by
  unfold SO at *
  have hs : out.Pairwise (· ≤ ·) := by rw [h]; exact k5d _
  rw [hq]
  refine k3k ?_ (k0l hs hk h1 h2) (k5d _)
  refine (k7s out k p).trans ?_
  rw [dJ hi, ← hp]
  refine List.Perm.trans ?_ (mQ _).symm
  rw [h]
  exact (mQ _).append_right _
/-! what two lists have in common -/
def xR (a b : List Int) (n : Nat) : List Int := a.filter fun x => decide (0 ≤ uH b x n)
theorem k2s (a b : List Int) (n : Nat) : (xR a b n).length ≤ a.length := List.length_filter_le _ _
def CO (a b : List Int) (n i : Nat) (out : List Int) : Prop := out = xR (List.take i a) b n
theorem CO.zero (a b : List Int) (n : Nat) : CO a b n 0 [] := rfl
theorem CO.y {a b out : List Int} {n i : Nat} {x : Int} (h : CO a b n i out) (hi : i < a.length) (hx : x = List.getD a i 0) (h1 : 0 ≤ uH b (List.getD a i 0) n) : CO a b n (i + 1) (out ++ [x]) := by
  unfold CO xR at *
  rw [dJ hi, List.filter_append, ← h, hx]
  congr 1
  rw [List.filter_cons_of_pos (p := fun x => decide (0 ≤ uH b x n)) (a := List.getD a i 0) (decide_eq_true h1)]; rfl
theorem CO.n {a b out : List Int} {n i : Nat} (h : CO a b n i out) (hi : i < a.length) (h1 : ¬ 0 ≤ uH b (List.getD a i 0) n) : CO a b n (i + 1) out := by
  unfold CO xR at *
  rw [dJ hi, List.filter_append, ← h]
  have : List.filter (fun x => decide (0 ≤ uH b x n)) [List.getD a i 0] = [] := by
    rw [List.filter_cons_of_neg (by rw [decide_eq_true_iff]; exact h1)]; rfl
  rw [this, List.append_nil]
theorem CO.fin {a b out : List Int} {n i : Nat} (h : CO a b n i out) (hi : a.length ≤ i) : out = xR a b n := by
  unfold CO at h; rw [List.take_of_length_le hi] at h; exact h
theorem CO.len {a b out : List Int} {n i : Nat} (h : CO a b n i out) (hi : i ≤ a.length) : out.length ≤ i := by
  unfold CO at h; rw [h]
  have := k2s (List.take i a) b n
  rw [List.length_take] at this; omega
/-! the same -/
def aJ (a b : List Int) : Bool := decide (a = b)
theorem v06 (a : List Int) : aJ a a = true := decide_eq_true rfl
theorem u6y {a b : List Int} (h : a = b) : aJ a b = true := decide_eq_true h
theorem z6 {a b : List Int} (h : ¬ a = b) : aJ a b = false := decide_eq_false h
theorem k5f {a b : List Int} (h : aJ a b = true) : a = b := of_decide_eq_true h
theorem k5e {a b : List Int} (h : aJ a b = false) : ¬ a = b := of_decide_eq_false h
theorem u48 {a b : List Int} (h : a.length = b.length) (h2 : ∀ j, j < a.length → List.getD a j 0 = List.getD b j 0) : aJ a b = true := by
  refine u6y (List.ext_getElem h fun i h1 h3 => ?_)
  have := h2 i h1
  rw [List.getD_eq_getElem?_getD, List.getElem?_eq_getElem h1, List.getD_eq_getElem?_getD, List.getElem?_eq_getElem h3] at this
  exact this
theorem u4a {a b : List Int} (h : ¬ a.length = b.length) : aJ a b = false := z6 fun e => h (by rw [e])
theorem u49 {a b : List Int} {k : Nat} (h : ¬ List.getD a k 0 = List.getD b k 0) : aJ a b = false := z6 fun e => h (by rw [e])
end Go.Proofs.YtbicifcgghmhaaaGreat
namespace Go.Proofs.YtbicifcgghmhaaaGreat
open Go.ChangeShapes Go.WideShapes Go.ChangeAt Go.RowKit
set_option linter.unusedVariables false
set_option linter.unusedSimpArgs false
set_option maxHeartbeats 4000000
set_option maxRecDepth 100000
@[reducible] def u3 (x : Int) : Prop := ((-9223372036854775808) ≤ x ∧ x ≤ 9223372036854775807)
@[reducible] def bU (k : Nat) : Prop := (((((k + 1) : Nat) : Int) : Int) = ((k : Int) + 1))
theorem nQ (l : List Int) (n : Nat) (v : Int) (hn : List.length l = n) (hm : n ≤ 1000000) : Fun 163 [.c (.d (D.sl (dI .i64 l) n)), iE v] (kF []) 0 (iV (uH l v n)) (kF []) 0 := by
 refine Fun.mk (n := 19) Tryz.func163 rfl rfl (Nat.le_of_ble_eq_true rfl) ?_
 intro cx hcx
 refine kH [.no] True [(0, sV .i64 l n), (1, iV v)] [] 0 trivial ?_
 refine AW.seq ?_
 refine kS [.no, .no, .no] True [(0, sV .i64 l n), (1, iV v), (7, uV n), (8, iV 0)] trivial ?_
 refine AW.block ?_
 refine k8 0 hcx (fun (x : {x : Nat // match x with | k => (k ≤ n) ∧ (uH l v k = -1)}) => match x with | ⟨k, _⟩ => (⟨[(0, sV .i64 l n), (1, iV v), (7, uV n), (8, uV k)], [], 0⟩ : ES)) (fun x => match x with | ⟨k, _⟩ => n - k) ⟨(0 : Nat), ⟨zo, rfl⟩⟩ [] (P := (kJ (dI .i64 l)) ∧ (kG n) ∧ (kM v) ∧ (kM (n : Int)) ∧ (kM 0)) zk ⟨rfl, rfl, rfl, rfl, rfl⟩ ?_
 rintro ⟨k, hinv0⟩
 obtain ⟨hk, hi⟩ : (k ≤ n) ∧ (uH l v k = -1) := hinv0
 refine qW (l := [(0, sV .i64 l n), (1, iV v), (7, uV n), (8, uV k)]) (g := []) (nx := 0) rfl rfl rfl ?_
 by_cases hx1 : (((k : Nat) : Int) < ((n : Nat) : Int))
 ·refine kH [.b true] (((k : Int) < (n : Int))) [(0, sV .i64 l n), (1, iV v), (7, uV n), (8, uV k), (9, bV true)] [] 0 zo ?_
  refine AW.seq ?_
  refine vL ?_
  refine AW.seq ?_
  refine AW.block ?_
  refine kS [.no, .no] True [(0, sV .i64 l n), (1, iV v), (5, uV k), (7, uV n), (8, uV k)] trivial ?_
  by_cases hx2 : (v = (List.getD l k 0))
  ·refine kS [.no, .no, .no, .n k, .d (D.lit (.int .i64 (List.getD l k 0))), .b true] ((kM (k : Int)) ∧ (k < n) ∧ ((List.drop k (dI .i64 l))[0]? = some (D.lit (.int .i64 (List.getD l k 0)))) ∧ ((v = (List.getD l k 0)))) [(0, sV .i64 l n), (1, iV v), (5, uV k), (7, uV n), (8, uV k), (16, bV true)] ⟨rfl, zo, (yF _ _ _ zo), zo⟩ ?_
   refine zt ?_
   refine kS [.no, .no] True [(4, uV k)] trivial ?_
   refine AW.ret ?_
   exact kA (.inr rfl) [] (P := (((uH l v n) : Int) = (k : Int))) zk (by exact xG hi zo n zo)
  ·refine kS [.no, .no, .no, .n k, .d (D.lit (.int .i64 (List.getD l k 0))), .b false] ((kM (k : Int)) ∧ (k < n) ∧ ((List.drop k (dI .i64 l))[0]? = some (D.lit (.int .i64 (List.getD l k 0)))) ∧ (¬ (v = (List.getD l k 0)))) [(0, sV .i64 l n), (1, iV v), (5, uV k), (7, uV n), (8, uV k), (16, bV false)] ⟨rfl, zo, (yF _ _ _ zo), zo⟩ ?_
   refine uO ?_
   refine yA [.w, .no] (u3 ((k : Int) + 1)) [(0, sV .i64 l n), (1, iV v), (7, uV n), (8, iV (↑k + 1))] ⟨by omega, by omega⟩ ?_
   exact kW ⟨((k + 1) : Nat), ⟨zo, (k3w hi zo)⟩⟩ [] (P := (kJ (dI .i64 l)) ∧ (kG n) ∧ (kM v) ∧ (kM (n : Int)) ∧ (bU k)) zk ⟨rfl, rfl, rfl, rfl, (by rfl)⟩ (show n - (k + 1) < n - k from zo)
 ·refine kH [.b false] (¬ ((k : Int) < (n : Int))) [(0, sV .i64 l n), (1, iV v), (7, uV n), (8, uV k), (9, bV false)] [] 0 zo ?_
  refine AW.seq ?_
  refine zf ?_
  refine AW.exit ?_
  refine kH [.no] True [(4, iV (-1))] [] 0 trivial ?_
  refine AW.ret ?_
  exact kA (.inr rfl) [] (P := (((uH l v n) : Int) = (-1))) zk (by (rw [show n = k by omega]; exact hi))
theorem l8 (l : List Int) (n : Nat) (v : Int) (hn : List.length l = n) (hm : n ≤ 1000000) : Fun 165 [.c (.d (D.sl (dI .i64 l) n)), iE v] (kF []) 0 (iV (uH l v n)) (kF []) 0 := by
 refine Fun.mk (n := 8) Tryz.func165 rfl rfl (Nat.le_of_ble_eq_true rfl) ?_
 intro cx hcx
 refine kH [.no] True [(0, sV .i64 l n), (1, iV v)] [] 0 trivial ?_
 have hx1 : ((((-1) : Int) ≤ (uH l v n)) ∧ ((uH l v n) < ((n : Nat) : Int))) := bG l v n
 refine kS [.no, .no, .call [] (iV (uH l v n)) [] 0 [] none, .no] _ [(4, iV (uH l v n))] (nQ l n v zo zo) ?_
 refine AW.ret ?_
 exact kA (.inr rfl) [] (P := (kM (uH l v n))) zk rfl
theorem u0u (p : Int)  : Fun 168 [iE p] (kF []) 0 (uW (D.lit (.bool (decide (1 ≤ p ∧ p ≤ 8))))) (kF []) 0 := by
 refine Fun.mk (n := 9) Tryz.func168 rfl rfl (Nat.le_of_ble_eq_true rfl) ?_
 intro cx hcx
 refine kH [.no] True [(0, iV p)] [] 0 trivial ?_
 by_cases hx1 : ((1 : Int) ≤ p)
 ·by_cases hx2 : (p ≤ 8)
  ·refine kS [.no, .b true, .no, .no, .b true, .no, .no] ((((1 : Int) ≤ p)) ∧ ((p ≤ 8))) [(2, bV true)] ⟨zo, zo⟩ ?_
   refine AW.ret ?_
   exact kA (.inr rfl) [] (P := ((decide (1 ≤ p ∧ p ≤ 8)) = true)) zk (by exact decide_eq_true zo)
  ·refine kS [.no, .b true, .no, .no, .b false, .no, .no] ((((1 : Int) ≤ p)) ∧ (¬ (p ≤ 8))) [(2, bV false)] ⟨zo, zo⟩ ?_
   refine AW.ret ?_
   exact kA (.inr rfl) [] (P := ((decide (1 ≤ p ∧ p ≤ 8)) = false)) zk (by exact decide_eq_false zo)
 ·refine kS [.no, .b false, .no, .no, .no] (¬ ((1 : Int) ≤ p)) [(2, bV false)] zo ?_
  refine AW.ret ?_
  exact kA (.inr rfl) [] (P := ((decide (1 ≤ p ∧ p ≤ 8)) = false)) zk (by exact decide_eq_false zo)
theorem tM (l : List Int) (n : Nat) (hn : List.length l = n) (hm : n ≤ 1000000) : Fun 156 [.c (.d (D.sl (dI .i64 l) n))] (kF []) 0 (uW (D.lit (.bool (t4 l n)))) (kF []) 0 := by
 refine Fun.mk (n := 31) Tryz.func156 rfl rfl (Nat.le_of_ble_eq_true rfl) ?_
 intro cx hcx
 refine kH [.no] True [(0, sV .i64 l n)] [] 0 trivial ?_
 refine AW.seq ?_
 by_cases hx1 : (((n : Nat) : Int) < 1)
 ·refine kS [.no, .no, .b true, .no, .no] (((n : Int) < 1)) [(0, sV .i64 l n), (12, bV true)] zo ?_
  refine zt ?_
  refine kS [.no] True [(2, bV false)] trivial ?_
  refine AW.ret ?_
  exact kA (.inr rfl) [] (P := ((t4 l n) = false)) zk (by exact u5w zo)
 ·by_cases hx2 : ((8 : Int) < ((n : Nat) : Int))
  ·refine kS [.no, .no, .b false, .no, .no, .no, .b true, .no] ((¬ ((n : Int) < 1)) ∧ (((8 : Int) < (n : Int)))) [(0, sV .i64 l n), (12, bV true)] ⟨zo, zo⟩ ?_
   refine zt ?_
   refine kS [.no] True [(2, bV false)] trivial ?_
   refine AW.ret ?_
   exact kA (.inr rfl) [] (P := ((t4 l n) = false)) zk (by exact u5w zo)
  ·refine kS [.no, .no, .b false, .no, .no, .no, .b false, .no] ((¬ ((n : Int) < 1)) ∧ (¬ ((8 : Int) < (n : Int)))) [(0, sV .i64 l n), (12, bV false)] ⟨zo, zo⟩ ?_
   refine uO ?_
   refine AW.seq ?_
   refine kS [.no, .no, .no] True [(0, sV .i64 l n), (13, sV .i64 l n), (14, uV n), (15, iV 0)] trivial ?_
   refine AW.block ?_
   refine k8 0 hcx (fun (x : {x : Nat // match x with | k => (k ≤ n) ∧ (∀ j, j < k → chE l n j = true)}) => match x with | ⟨k, _⟩ => (⟨[(0, sV .i64 l n), (13, sV .i64 l n), (14, uV n), (15, uV k)], [], 0⟩ : ES)) (fun x => match x with | ⟨k, _⟩ => n - k) ⟨(0 : Nat), ⟨zo, (fun j hj => absurd hj (Nat.not_lt_zero j))⟩⟩ [] (P := (kJ (dI .i64 l)) ∧ (kG n) ∧ (kJ (dI .i64 l)) ∧ (kG n) ∧ (kM (n : Int)) ∧ (kM 0)) zk ⟨rfl, rfl, rfl, rfl, rfl, rfl⟩ ?_
   rintro ⟨k, hinv0⟩
   obtain ⟨hk, ha⟩ : (k ≤ n) ∧ (∀ j, j < k → chE l n j = true) := hinv0
   refine qW (l := [(0, sV .i64 l n), (13, sV .i64 l n), (14, uV n), (15, uV k)]) (g := []) (nx := 0) rfl rfl rfl ?_
   by_cases hx3 : (((k : Nat) : Int) < ((n : Nat) : Int))
   ·refine kH [.b true] (((k : Int) < (n : Int))) [(0, sV .i64 l n), (13, sV .i64 l n), (14, uV n), (15, uV k), (16, bV true)] [] 0 zo ?_
    refine AW.seq ?_
    refine vL ?_
    refine AW.seq ?_
    refine AW.block ?_
    refine kS [.no, .n k, .d (D.lit (.int .i64 (List.getD l k 0))), .no, .no] ((kM (k : Int)) ∧ (k < n) ∧ ((List.drop k (dI .i64 l))[0]? = some (D.lit (.int .i64 (List.getD l k 0))))) [(0, sV .i64 l n), (3, uV k), (4, iV (List.getD l k 0)), (13, sV .i64 l n), (14, uV n), (15, uV k)] ⟨rfl, zo, (yF _ _ _ zo)⟩ ?_
    rcases Bool.eq_false_or_eq_true (decide (1 ≤ (List.getD l k 0) ∧ (List.getD l k 0) ≤ 8)) with hx4 | hx4
    ·have hx5 : (((1 : Int) ≤ (List.getD l k 0)) ∧ ((List.getD l k 0) ≤ 8)) := of_decide_eq_true hx4
     by_cases hx7 : ((uH l (List.getD l k 0) n) ≠ ((k : Nat) : Int))
     ·have hx8 : ((((-1) : Int) ≤ (uH l (List.getD l k 0) n)) ∧ ((uH l (List.getD l k 0) n) < ((n : Nat) : Int))) := bG l (List.getD l k 0) n
      refine kS (.no :: .call [] (bV true) [] 0 [] none :: qE 4 [.call [] (iV (uH l (List.getD l k 0) n)) [] 0 [] none, .no, .b true, .no]) ((Fun 168 [iE (List.getD l k 0)] (kF []) 0 (bV true) (kF []) 0) ∧ (_) ∧ (((uH l (List.getD l k 0) n) ≠ (k : Int)))) [(0, sV .i64 l n), (13, sV .i64 l n), (14, uV n), (15, uV k), (29, bV true)] ⟨(by have h0 := (u0u (List.getD l k 0)); rw [hx4] at h0; exact h0), (l8 l n (List.getD l k 0) zo zo), zo⟩ ?_
      refine zt ?_
      refine kS [.no] True [(2, bV false)] trivial ?_
      refine AW.ret ?_
      exact kA (.inr rfl) [] (P := ((t4 l n) = false)) zk (by exact u5v (k := k) zo (decide_eq_false zo))
     ·have hx9 : ((((-1) : Int) ≤ (uH l (List.getD l k 0) n)) ∧ ((uH l (List.getD l k 0) n) < ((n : Nat) : Int))) := bG l (List.getD l k 0) n
      refine kS (.no :: .call [] (bV true) [] 0 [] none :: qE 4 [.call [] (iV (uH l (List.getD l k 0) n)) [] 0 [] none, .no, .b false, .no]) ((Fun 168 [iE (List.getD l k 0)] (kF []) 0 (bV true) (kF []) 0) ∧ (_) ∧ (¬ ((uH l (List.getD l k 0) n) ≠ (k : Int)))) [(0, sV .i64 l n), (13, sV .i64 l n), (14, uV n), (15, uV k), (29, bV false)] ⟨(by have h0 := (u0u (List.getD l k 0)); rw [hx4] at h0; exact h0), (l8 l n (List.getD l k 0) zo zo), zo⟩ ?_
      refine uO ?_
      refine yA [.w, .no] (u3 ((k : Int) + 1)) [(0, sV .i64 l n), (13, sV .i64 l n), (14, uV n), (15, iV (↑k + 1))] ⟨by omega, by omega⟩ ?_
      exact kW ⟨((k + 1) : Nat), ⟨zo, (fun j hj => (Nat.lt_succ_iff_lt_or_eq.1 hj).elim (ha j) (fun e9 => by subst e9; exact decide_eq_true zo))⟩⟩ [] (P := (kJ (dI .i64 l)) ∧ (kG n) ∧ (kJ (dI .i64 l)) ∧ (kG n) ∧ (kM (n : Int)) ∧ (bU k)) zk ⟨rfl, rfl, rfl, rfl, rfl, (by rfl)⟩ (show n - (k + 1) < n - k from zo)
    ·have hx10 : ¬ (((1 : Int) ≤ (List.getD l k 0)) ∧ ((List.getD l k 0) ≤ 8)) := of_decide_eq_false hx4
     refine kS [.no, .call [] (bV false) [] 0 [] none, .no, .no, .no] (Fun 168 [iE (List.getD l k 0)] (kF []) 0 (bV false) (kF []) 0) [(0, sV .i64 l n), (13, sV .i64 l n), (14, uV n), (15, uV k), (29, bV true)] (by have h0 := (u0u (List.getD l k 0)); rw [hx4] at h0; exact h0) ?_
     refine zt ?_
     refine kS [.no] True [(2, bV false)] trivial ?_
     refine AW.ret ?_
     exact kA (.inr rfl) [] (P := ((t4 l n) = false)) zk (by exact u5v (k := k) zo (decide_eq_false zo))
   ·refine kH [.b false] (¬ ((k : Int) < (n : Int))) [(0, sV .i64 l n), (13, sV .i64 l n), (14, uV n), (15, uV k), (16, bV false)] [] 0 zo ?_
    refine AW.seq ?_
    refine zf ?_
    refine AW.exit ?_
    refine kH [.no] True [(2, bV true)] [] 0 trivial ?_
    refine AW.ret ?_
    exact kA (.inr rfl) [] (P := ((t4 l n) = true)) zk (by exact v2s zo (fun j hj => ha j zo))
theorem mH {p : Prop} (h : p := by (simp only [y5, rI, lT, qQ, List.length_append, List.length_cons, List.length_nil, List.length_take, List.length_drop, List.length_replicate, List.length_set, List.length_map, List.length_reverse, Nat.mul_one] <;> omega)) : p := h
theorem oU (l : List Int) (n : Nat) (hn : List.length l = n) (hb : n ≤ 1000000) (h1 : 1 ≤ n) : Fun 96 [.c (.d (D.sl (dI .i64 l) n))] (kF []) 0 (oV 0 0 n 1) (kF [(0, some (3, .ds (dI .i64 l)))]) 1 := by
 refine Fun.mk (n := 8) Tryz.func96 rfl rfl (Nat.le_of_ble_eq_true rfl) ?_
 intro cx hcx
 refine kH [.no] True [(0, sV .i64 l n)] [] 0 trivial ?_
 refine AW.seq ?_
 refine kS [.no, .no] (1 ≤ n) [(0, sV .i64 l n), (4, bV false)] zo ?_
 refine uO ?_
 refine kH [.no, .no, .ap none (0 + n) (dI .i64 l), .no] (((dI .i64 l).length = n * 1) ∧ ((([] : List D) : List D).length = 0 * 1) ∧ ((0 + n) * 8 ≤ 140737488355328) ∧ ((0 : Nat) + n = (0 + n)) ∧ ((([] : List D) : List D) ++ (dI .i64 l) = (dI .i64 l))) [(2, oV 1 0 (0 + n) 1)] [(1, some (3, .ds (dI .i64 l)))] 2 ⟨mH, mH, zo, zo, rfl⟩ ?_
 refine AW.ret ?_
 exact kA (.inr rfl) [(0, 1)] (P := (kG 0) ∧ ((n : Nat) = (0 + n)) ∧ (kJ (dI .i64 l))) zk ⟨rfl, zo, rfl⟩
theorem oT   : Fun 96 [.c (.d (D.lit (.slice none 0 0)))] (kF []) 0 (oV 0 0 0 1) (kF [(0, some (3, .ds ([] : List D)))]) 1 := by
 refine Fun.mk (n := 8) Tryz.func96 rfl rfl (Nat.le_of_ble_eq_true rfl) ?_
 intro cx hcx
 refine kH [.no] True [(0, nV)] [] 0 trivial ?_
 refine AW.seq ?_
 refine kS [.no, .no] True [(0, nV), (4, bV true)] trivial ?_
 refine zt ?_
 refine kS [.no] True [(2, nV)] trivial ?_
 refine AW.adoptS 2 1 3 rfl ?_
 refine AW.ret ?_
 exact kA (.inr rfl) [] (P := (kG 0) ∧ (kG 0) ∧ (kJ ([] : List D))) zk ⟨rfl, rfl, rfl⟩
theorem oR (a : Addr) (cap : Nat) (hm : cap ≤ maxLen) : Fun 96 [.c (.d (D.lit (.slice (some a) 0 cap)))] (kF []) 0 (oV 0 0 0 1) (kF [(0, some (3, .ds ([] : List D)))]) 1 := by
 refine Fun.mk (n := 8) Tryz.func96 rfl rfl (Nat.le_of_ble_eq_true rfl) ?_
 intro cx hcx
 refine kH [.no] True [(0, uW (D.lit (.slice (some a) 0 cap)))] [] 0 trivial ?_
 refine AW.seq ?_
 refine kS [.no, .no] True [(0, uW (D.lit (.slice (some a) 0 cap))), (4, bV false)] trivial ?_
 refine uO ?_
 refine zE 0 hm (fun h9 => by cases h9) rfl ?_
 refine kH [.no, .no, .ap none 0 ([] : List D), .no] ((([] : List D).length = 0 * 1) ∧ ((([] : List D) : List D).length = 0 * 1) ∧ ((0 + 0) * 8 ≤ 140737488355328) ∧ ((0 : Nat) + 0 = 0) ∧ ((([] : List D) : List D) ++ ([] : List D) = ([] : List D))) [(2, oV 1 0 0 1)] [(1, some (3, .ds ([] : List D)))] 2 ⟨mH, mH, zo, zo, rfl⟩ ?_
 refine AW.ret ?_
 exact kA (.inr rfl) [(0, 1)] (P := (kG 0) ∧ (kG 0) ∧ (kJ ([] : List D))) zk ⟨rfl, rfl, rfl⟩
theorem c5 (l : List Int) (n : Nat) (hn : List.length l = n) (hb : n ≤ 1000000) : Fun 96 [.c (.d (D.sl (dI .i64 l) n))] (kF []) 0 (oV 0 0 n 1) (kF [(0, some (3, .ds (dI .i64 l)))]) 1 := by
 by_cases h1 : 1 ≤ n
 ·exact oU l n hn hb h1
 ·obtain rfl : n = 0 := by omega
  obtain rfl : l = [] := List.eq_nil_of_length_eq_zero hn
  exact Fun.nil0 oT (fun a cap hm => oR a cap hm)
theorem u0v (a b : List Int) (n m : Nat) (hn : List.length a = n) (hm : List.length b = m) (h2 : n ≤ 1000000) (h3 : m ≤ 1000000) : Fun 150 [.c (.d (D.sl (dI .i64 a) n)), .c (.d (D.sl (dI .i64 b) m))] (kF []) 0 (sV .i64 (xR a b m) (List.length (xR a b m))) (kF []) 0 := by
 refine Fun.mk (n := 24) Tryz.func150 rfl rfl (Nat.le_of_ble_eq_true rfl) ?_
 intro cx hcx
 refine kH [.no] True [(0, sV .i64 a n), (1, sV .i64 b m)] [] 0 trivial ?_
 refine kS [.no] True [(0, sV .i64 a n), (1, sV .i64 b m), (5, nV)] trivial ?_
 refine AW.seq ?_
 refine kS [.no, .no, .no] True [(1, sV .i64 b m), (5, nV), (8, sV .i64 a n), (9, uV n), (10, iV 0)] trivial ?_
 refine AW.block ?_
 refine AW.adoptS 5 1 3 rfl ?_
 refine k8 0 hcx (fun (x : {x : Nat × Nat × List Int // match x with | (i, k, o) => (i ≤ n ∧ k ≤ i) ∧ (CO a b m i o) ∧ (List.length o = k)}) => match x with | ⟨(i, k, o), _⟩ => (⟨[(1, sV .i64 b m), (5, oV 1 0 k 1), (8, sV .i64 a n), (9, uV n), (10, uV i)], [(1, some (3, .ds (dI .i64 o)))], 2⟩ : ES)) (fun x => match x with | ⟨(i, k, o), _⟩ => n - i) ⟨((0 : Nat), (0 : Nat), (([] : List Int) : List Int)), ⟨zo, (CO.zero a b m), rfl⟩⟩ [(1, 0)] (P := (kJ (dI .i64 b)) ∧ (kG m) ∧ (kG 0) ∧ (kG 0) ∧ (kJ (dI .i64 a)) ∧ (kG n) ∧ (kM (n : Int)) ∧ (kM 0) ∧ (((dI .i64 ([] : List Int)) : List D) = ([] : List D))) zk ⟨rfl, rfl, rfl, rfl, rfl, rfl, rfl, rfl, (by rfl)⟩ ?_
 rintro ⟨⟨i, k, o⟩, hinv0⟩
 obtain ⟨hi, hC, ho⟩ : (i ≤ n ∧ k ≤ i) ∧ (CO a b m i o) ∧ (List.length o = k) := hinv0
 refine qW (l := [(1, sV .i64 b m), (5, oV 1 0 k 1), (8, sV .i64 a n), (9, uV n), (10, uV i)]) (g := [(1, some (3, .ds (dI .i64 o)))]) (nx := 2) rfl rfl rfl ?_
 by_cases hx1 : (((i : Nat) : Int) < ((n : Nat) : Int))
 ·refine kH [.b true] (((i : Int) < (n : Int))) [(1, sV .i64 b m), (5, oV 1 0 k 1), (8, sV .i64 a n), (9, uV n), (10, uV i), (11, bV true)] [(1, some (3, .ds (dI .i64 o)))] 2 zo ?_
  refine AW.seq ?_
  refine vL ?_
  refine AW.seq ?_
  refine AW.block ?_
  refine kS [.n i, .d (D.lit (.int .i64 (List.getD a i 0))), .no] ((kM (i : Int)) ∧ (i < n) ∧ ((List.drop i (dI .i64 a))[0]? = some (D.lit (.int .i64 (List.getD a i 0))))) [(1, sV .i64 b m), (5, oV 1 0 k 1), (7, iV (List.getD a i 0)), (8, sV .i64 a n), (9, uV n), (10, uV i)] ⟨rfl, zo, (yF _ _ _ zo)⟩ ?_
  by_cases hx3 : ((0 : Int) ≤ (uH b (List.getD a i 0) m))
  ·have hx4 : ((((-1) : Int) ≤ (uH b (List.getD a i 0) m)) ∧ ((uH b (List.getD a i 0) m) < ((m : Nat) : Int))) := bG b (List.getD a i 0) m
   refine kS [.no, .no, .call [] (iV (uH b (List.getD a i 0) m)) [] 0 [] none, .b true] ((_) ∧ (((0 : Int) ≤ (uH b (List.getD a i 0) m)))) [(1, sV .i64 b m), (5, oV 1 0 k 1), (7, iV (List.getD a i 0)), (8, sV .i64 a n), (9, uV n), (10, uV i), (17, bV true)] ⟨(l8 b m (List.getD a i 0) zo zo), zo⟩ ?_
   refine zt ?_
   refine aC [.no, .no, .no, .ap none (k + 1) (dI .i64 (o ++ ([(List.getD a i 0)] : List Int))), .no] (([iD (List.getD a i 0)].length = 1 * 1) ∧ (((dI .i64 o) : List D).length = k * 1) ∧ ((k + 1) * 8 ≤ 140737488355328) ∧ (k + 1 = (k + 1)) ∧ (((dI .i64 o) : List D) ++ [iD (List.getD a i 0)] = (dI .i64 (o ++ ([(List.getD a i 0)] : List Int))))) [(1, sV .i64 b m), (5, oV 3 0 (k + 1) 1), (8, sV .i64 a n), (9, uV n), (10, uV i)] [(3, some (3, .ds (dI .i64 (o ++ ([(List.getD a i 0)] : List Int)))))] 4 ⟨mH, mH, zo, zo, (a8 .i64 o ([(List.getD a i 0)] : List Int))⟩ ?_
   refine yA [.w, .no] (u3 ((i : Int) + 1)) [(1, sV .i64 b m), (5, oV 3 0 (k + 1) 1), (8, sV .i64 a n), (9, uV n), (10, iV (↑i + 1))] ⟨by omega, by omega⟩ ?_
   exact kW ⟨(((i + 1) : Nat), ((k + 1) : Nat), ((o ++ ([(List.getD a i 0)] : List Int)) : List Int)), ⟨zo, (by exact hC.y zo rfl zo), (by (simp only [y5, rI, lT, List.length_append, List.length_cons, List.length_nil] <;> omega))⟩⟩ [(1, 3)] (P := (kJ (dI .i64 b)) ∧ (kG m) ∧ (kG 0) ∧ (kG (k + 1)) ∧ (kJ (dI .i64 a)) ∧ (kG n) ∧ (kM (n : Int)) ∧ (bU i) ∧ (kJ (dI .i64 (o ++ ([(List.getD a i 0)] : List Int))))) zk ⟨rfl, rfl, rfl, rfl, rfl, rfl, rfl, (by rfl), rfl⟩ (show n - (i + 1) < n - i from zo)
  ·have hx5 : ((((-1) : Int) ≤ (uH b (List.getD a i 0) m)) ∧ ((uH b (List.getD a i 0) m) < ((m : Nat) : Int))) := bG b (List.getD a i 0) m
   refine kS [.no, .no, .call [] (iV (uH b (List.getD a i 0) m)) [] 0 [] none, .b false] ((_) ∧ (¬ ((0 : Int) ≤ (uH b (List.getD a i 0) m)))) [(1, sV .i64 b m), (5, oV 1 0 k 1), (7, iV (List.getD a i 0)), (8, sV .i64 a n), (9, uV n), (10, uV i), (17, bV false)] ⟨(l8 b m (List.getD a i 0) zo zo), zo⟩ ?_
   refine uO ?_
   refine yA [.w, .no] (u3 ((i : Int) + 1)) [(1, sV .i64 b m), (5, oV 1 0 k 1), (8, sV .i64 a n), (9, uV n), (10, iV (↑i + 1))] ⟨by omega, by omega⟩ ?_
   exact kW ⟨(((i + 1) : Nat), (k : Nat), (o : List Int)), ⟨zo, (by exact hC.n zo zo), (by assumption)⟩⟩ [] (P := (kJ (dI .i64 b)) ∧ (kG m) ∧ (kG 0) ∧ (kG k) ∧ (kJ (dI .i64 a)) ∧ (kG n) ∧ (kM (n : Int)) ∧ (bU i) ∧ (kJ (dI .i64 o))) zk ⟨rfl, rfl, rfl, rfl, rfl, rfl, rfl, (by rfl), rfl⟩ (show n - (i + 1) < n - i from zo)
 ·refine kH [.b false] (¬ ((i : Int) < (n : Int))) [(1, sV .i64 b m), (5, oV 1 0 k 1), (8, sV .i64 a n), (9, uV n), (10, uV i), (11, bV false)] [(1, some (3, .ds (dI .i64 o)))] 2 zo ?_
  refine AW.seq ?_
  refine zf ?_
  refine AW.exit ?_
  refine kH [.no, .no] True [(4, oV 1 0 k 1)] [(1, some (3, .ds (dI .i64 o)))] 2 trivial ?_
  have hz1 : o = xR a b m := hC.fin (by omega)
  have hz2 : List.length (xR a b m) = k := by rw [← hz1]; omega
  refine AW.freeze 1 (l' := [(4, sV .i64 o k)]) (g' := []) rfl (FzS.cons rfl (.e (.c (@FzC.own 1 ((dI .i64 o) : List D) 0 k 1 true ((dI .i64 o) : List D) (by rw [List.drop_zero, Nat.mul_one, List.take_of_length_le (by (simp only [y5, rI, lT, qQ, List.length_append, List.length_cons, List.length_nil, List.length_take, List.length_drop, List.length_replicate, List.length_set, List.length_map, List.length_reverse, Nat.mul_one] <;> omega))]) mH))) FzS.nil) FzG.nil ?_
  refine AW.ret ?_
  exact kA (.inr rfl) [] (P := (((dI .i64 (xR a b m)) : List D) = (dI .i64 o)) ∧ (((List.length (xR a b m)) : Nat) = k)) zk ⟨(by exact congrArg _ hz1.symm), zo⟩
theorem x6 (a b : List Int) (n m : Nat) (hn : List.length a = n) (hm : List.length b = m) (h2 : n ≤ 1000000) (h3 : m ≤ 1000000) : Fun 83 [.c (.d (D.sl (dI .i64 a) n)), .c (.d (D.sl (dI .i64 b) m))] (kF []) 0 (uW (D.lit (.bool (aJ a b)))) (kF []) 0 := by
 refine Fun.mk (n := 26) Tryz.func83 rfl rfl (Nat.le_of_ble_eq_true rfl) ?_
 intro cx hcx
 refine kH [.no] True [(0, sV .i64 a n), (1, sV .i64 b m)] [] 0 trivial ?_
 refine AW.seq ?_
 by_cases hx1 : (((n : Nat) : Int) ≠ ((m : Nat) : Int))
 ·refine kS (qE 4 [.b true]) (((n : Int) ≠ (m : Int))) [(0, sV .i64 a n), (1, sV .i64 b m), (10, bV true)] zo ?_
  refine zt ?_
  refine kS [.no] True [(4, bV false)] trivial ?_
  refine AW.ret ?_
  exact kA (.inr rfl) [] (P := ((aJ a b) = false)) zk (by exact u4a zo)
 ·refine kS (qE 4 [.b false]) (¬ ((n : Int) ≠ (m : Int))) [(0, sV .i64 a n), (1, sV .i64 b m), (10, bV false)] zo ?_
  refine uO ?_
  refine AW.seq ?_
  refine kS [.no, .no, .no] True [(0, sV .i64 a n), (1, sV .i64 b m), (12, uV n), (13, iV 0)] trivial ?_
  refine AW.block ?_
  refine k8 0 hcx (fun (x : {x : Nat // match x with | k => (k ≤ n) ∧ (∀ j, j < k → List.getD a j 0 = List.getD b j 0)}) => match x with | ⟨k, _⟩ => (⟨[(0, sV .i64 a n), (1, sV .i64 b m), (12, uV n), (13, uV k)], [], 0⟩ : ES)) (fun x => match x with | ⟨k, _⟩ => n - k) ⟨(0 : Nat), ⟨zo, (fun j hj => absurd hj (Nat.not_lt_zero j))⟩⟩ [] (P := (kJ (dI .i64 a)) ∧ (kG n) ∧ (kJ (dI .i64 b)) ∧ (kG m) ∧ (kM (n : Int)) ∧ (kM 0)) zk ⟨rfl, rfl, rfl, rfl, rfl, rfl⟩ ?_
  rintro ⟨k, hinv0⟩
  obtain ⟨hk, ha⟩ : (k ≤ n) ∧ (∀ j, j < k → List.getD a j 0 = List.getD b j 0) := hinv0
  refine qW (l := [(0, sV .i64 a n), (1, sV .i64 b m), (12, uV n), (13, uV k)]) (g := []) (nx := 0) rfl rfl rfl ?_
  by_cases hx2 : (((k : Nat) : Int) < ((n : Nat) : Int))
  ·refine kH [.b true] (((k : Int) < (n : Int))) [(0, sV .i64 a n), (1, sV .i64 b m), (12, uV n), (13, uV k), (14, bV true)] [] 0 zo ?_
   refine AW.seq ?_
   refine vL ?_
   refine AW.seq ?_
   refine AW.block ?_
   refine kS [.no, .no] True [(0, sV .i64 a n), (1, sV .i64 b m), (5, uV k), (12, uV n), (13, uV k)] trivial ?_
   by_cases hx3 : ((List.getD a k 0) ≠ (List.getD b k 0))
   ·refine kS [.no, .no, .n k, .d (D.lit (.int .i64 (List.getD a k 0))), .no, .no, .n k, .d (D.lit (.int .i64 (List.getD b k 0))), .b true] ((kM (k : Int)) ∧ (k < n) ∧ ((List.drop k (dI .i64 a))[0]? = some (D.lit (.int .i64 (List.getD a k 0)))) ∧ (kM (k : Int)) ∧ (k < m) ∧ ((List.drop k (dI .i64 b))[0]? = some (D.lit (.int .i64 (List.getD b k 0)))) ∧ (((List.getD a k 0) ≠ (List.getD b k 0)))) [(0, sV .i64 a n), (1, sV .i64 b m), (12, uV n), (13, uV k), (24, bV true)] ⟨rfl, zo, (yF _ _ _ zo), rfl, zo, (yF _ _ _ zo), zo⟩ ?_
    refine zt ?_
    refine kS [.no] True [(4, bV false)] trivial ?_
    refine AW.ret ?_
    exact kA (.inr rfl) [] (P := ((aJ a b) = false)) zk (by exact u49 (k := k) zo)
   ·refine kS [.no, .no, .n k, .d (D.lit (.int .i64 (List.getD a k 0))), .no, .no, .n k, .d (D.lit (.int .i64 (List.getD b k 0))), .b false] ((kM (k : Int)) ∧ (k < n) ∧ ((List.drop k (dI .i64 a))[0]? = some (D.lit (.int .i64 (List.getD a k 0)))) ∧ (kM (k : Int)) ∧ (k < m) ∧ ((List.drop k (dI .i64 b))[0]? = some (D.lit (.int .i64 (List.getD b k 0)))) ∧ (¬ ((List.getD a k 0) ≠ (List.getD b k 0)))) [(0, sV .i64 a n), (1, sV .i64 b m), (12, uV n), (13, uV k), (24, bV false)] ⟨rfl, zo, (yF _ _ _ zo), rfl, zo, (yF _ _ _ zo), zo⟩ ?_
    refine uO ?_
    refine yA [.w, .no] (u3 ((k : Int) + 1)) [(0, sV .i64 a n), (1, sV .i64 b m), (12, uV n), (13, iV (↑k + 1))] ⟨by omega, by omega⟩ ?_
    exact kW ⟨((k + 1) : Nat), ⟨zo, (fun j hj => (Nat.lt_succ_iff_lt_or_eq.1 hj).elim (ha j) (fun e9 => by subst e9; omega))⟩⟩ [] (P := (kJ (dI .i64 a)) ∧ (kG n) ∧ (kJ (dI .i64 b)) ∧ (kG m) ∧ (kM (n : Int)) ∧ (bU k)) zk ⟨rfl, rfl, rfl, rfl, rfl, (by rfl)⟩ (show n - (k + 1) < n - k from zo)
  ·refine kH [.b false] (¬ ((k : Int) < (n : Int))) [(0, sV .i64 a n), (1, sV .i64 b m), (12, uV n), (13, uV k), (14, bV false)] [] 0 zo ?_
   refine AW.seq ?_
   refine zf ?_
   refine AW.exit ?_
   refine kH [.no] True [(4, bV true)] [] 0 trivial ?_
   refine AW.ret ?_
   exact kA (.inr rfl) [] (P := ((aJ a b) = true)) zk (by exact u48 zo (fun j hj => ha j zo))
theorem k38 (a b : List Int) (n m : Nat) (hn : List.length a = n) (hm : List.length b = m) (h2 : n ≤ 1000000) (h3 : m ≤ 1000000) : Fun 87 [.c (.d (D.sl (dI .i64 a) n)), .c (.d (D.sl (dI .i64 b) m))] (kF []) 0 (uW (D.lit (.bool (aJ a b)))) (kF []) 0 := by
 refine Fun.mk (n := 26) Tryz.func87 rfl rfl (Nat.le_of_ble_eq_true rfl) ?_
 intro cx hcx
 refine kH [.no] True [(0, sV .i64 a n), (1, sV .i64 b m)] [] 0 trivial ?_
 refine AW.seq ?_
 by_cases hx1 : (((n : Nat) : Int) ≠ ((m : Nat) : Int))
 ·refine kS (qE 4 [.b true]) (((n : Int) ≠ (m : Int))) [(0, sV .i64 a n), (1, sV .i64 b m), (10, bV true)] zo ?_
  refine zt ?_
  refine kS [.no] True [(4, bV false)] trivial ?_
  refine AW.ret ?_
  exact kA (.inr rfl) [] (P := ((aJ a b) = false)) zk (by exact u4a zo)
 ·refine kS (qE 4 [.b false]) (¬ ((n : Int) ≠ (m : Int))) [(0, sV .i64 a n), (1, sV .i64 b m), (10, bV false)] zo ?_
  refine uO ?_
  refine AW.seq ?_
  refine kS [.no, .no, .no] True [(0, sV .i64 a n), (1, sV .i64 b m), (12, uV n), (13, iV 0)] trivial ?_
  refine AW.block ?_
  refine k8 0 hcx (fun (x : {x : Nat // match x with | k => (k ≤ n) ∧ (∀ j, j < k → List.getD a j 0 = List.getD b j 0)}) => match x with | ⟨k, _⟩ => (⟨[(0, sV .i64 a n), (1, sV .i64 b m), (12, uV n), (13, uV k)], [], 0⟩ : ES)) (fun x => match x with | ⟨k, _⟩ => n - k) ⟨(0 : Nat), ⟨zo, (fun j hj => absurd hj (Nat.not_lt_zero j))⟩⟩ [] (P := (kJ (dI .i64 a)) ∧ (kG n) ∧ (kJ (dI .i64 b)) ∧ (kG m) ∧ (kM (n : Int)) ∧ (kM 0)) zk ⟨rfl, rfl, rfl, rfl, rfl, rfl⟩ ?_
  rintro ⟨k, hinv0⟩
  obtain ⟨hk, ha⟩ : (k ≤ n) ∧ (∀ j, j < k → List.getD a j 0 = List.getD b j 0) := hinv0
  refine qW (l := [(0, sV .i64 a n), (1, sV .i64 b m), (12, uV n), (13, uV k)]) (g := []) (nx := 0) rfl rfl rfl ?_
  by_cases hx2 : (((k : Nat) : Int) < ((n : Nat) : Int))
  ·refine kH [.b true] (((k : Int) < (n : Int))) [(0, sV .i64 a n), (1, sV .i64 b m), (12, uV n), (13, uV k), (14, bV true)] [] 0 zo ?_
   refine AW.seq ?_
   refine vL ?_
   refine AW.seq ?_
   refine AW.block ?_
   refine kS [.no, .no] True [(0, sV .i64 a n), (1, sV .i64 b m), (5, uV k), (12, uV n), (13, uV k)] trivial ?_
   by_cases hx3 : ((List.getD a k 0) ≠ (List.getD b k 0))
   ·refine kS [.no, .no, .n k, .d (D.lit (.int .i64 (List.getD a k 0))), .no, .no, .n k, .d (D.lit (.int .i64 (List.getD b k 0))), .b true] ((kM (k : Int)) ∧ (k < n) ∧ ((List.drop k (dI .i64 a))[0]? = some (D.lit (.int .i64 (List.getD a k 0)))) ∧ (kM (k : Int)) ∧ (k < m) ∧ ((List.drop k (dI .i64 b))[0]? = some (D.lit (.int .i64 (List.getD b k 0)))) ∧ (((List.getD a k 0) ≠ (List.getD b k 0)))) [(0, sV .i64 a n), (1, sV .i64 b m), (12, uV n), (13, uV k), (24, bV true)] ⟨rfl, zo, (yF _ _ _ zo), rfl, zo, (yF _ _ _ zo), zo⟩ ?_
    refine zt ?_
    refine kS [.no] True [(4, bV false)] trivial ?_
    refine AW.ret ?_
    exact kA (.inr rfl) [] (P := ((aJ a b) = false)) zk (by exact u49 (k := k) zo)
   ·refine kS [.no, .no, .n k, .d (D.lit (.int .i64 (List.getD a k 0))), .no, .no, .n k, .d (D.lit (.int .i64 (List.getD b k 0))), .b false] ((kM (k : Int)) ∧ (k < n) ∧ ((List.drop k (dI .i64 a))[0]? = some (D.lit (.int .i64 (List.getD a k 0)))) ∧ (kM (k : Int)) ∧ (k < m) ∧ ((List.drop k (dI .i64 b))[0]? = some (D.lit (.int .i64 (List.getD b k 0)))) ∧ (¬ ((List.getD a k 0) ≠ (List.getD b k 0)))) [(0, sV .i64 a n), (1, sV .i64 b m), (12, uV n), (13, uV k), (24, bV false)] ⟨rfl, zo, (yF _ _ _ zo), rfl, zo, (yF _ _ _ zo), zo⟩ ?_
    refine uO ?_
    refine yA [.w, .no] (u3 ((k : Int) + 1)) [(0, sV .i64 a n), (1, sV .i64 b m), (12, uV n), (13, iV (↑k + 1))] ⟨by omega, by omega⟩ ?_
    exact kW ⟨((k + 1) : Nat), ⟨zo, (fun j hj => (Nat.lt_succ_iff_lt_or_eq.1 hj).elim (ha j) (fun e9 => by subst e9; omega))⟩⟩ [] (P := (kJ (dI .i64 a)) ∧ (kG n) ∧ (kJ (dI .i64 b)) ∧ (kG m) ∧ (kM (n : Int)) ∧ (bU k)) zk ⟨rfl, rfl, rfl, rfl, rfl, (by rfl)⟩ (show n - (k + 1) < n - k from zo)
  ·refine kH [.b false] (¬ ((k : Int) < (n : Int))) [(0, sV .i64 a n), (1, sV .i64 b m), (12, uV n), (13, uV k), (14, bV false)] [] 0 zo ?_
   refine AW.seq ?_
   refine zf ?_
   refine AW.exit ?_
   refine kH [.no] True [(4, bV true)] [] 0 trivial ?_
   refine AW.ret ?_
   exact kA (.inr rfl) [] (P := ((aJ a b) = true)) zk (by exact u48 zo (fun j hj => ha j zo))
theorem tN (a b : List Int) (n m : Nat) (hn : List.length a = n) (hm : List.length b = m) (h2 : n ≤ 1000000) (h3 : m ≤ 1000000) : Fun 52 [.c (.d (D.sl (dI .i64 a) n)), .c (.d (D.sl (dI .i64 b) m))] (kF []) 0 (uW (D.lit (.bool (aJ a b)))) (kF []) 0 := by
 refine Fun.mk (n := 8) Tryz.func52 rfl rfl (Nat.le_of_ble_eq_true rfl) ?_
 intro cx hcx
 refine kH [.no] True [(0, sV .i64 a n), (1, sV .i64 b m)] [] 0 trivial ?_
 rcases Bool.eq_false_or_eq_true (aJ a b) with hx1 | hx1
 ·refine kS [.no, .no, .call [] (bV true) [] 0 [] none, .no] (Fun 83 [.c (.d (dl a n)), .c (.d (dl b m))] (kF []) 0 (bV true) (kF []) 0) [(4, bV true)] (by have h0 := (x6 a b n m zo zo zo zo); rw [hx1] at h0; exact h0) ?_
  refine AW.ret ?_
  exact kA (.inr rfl) [] (P := ((aJ a b) = true)) zk (by assumption)
 ·refine kS [.no, .no, .call [] (bV false) [] 0 [] none, .no] (Fun 83 [.c (.d (dl a n)), .c (.d (dl b m))] (kF []) 0 (bV false) (kF []) 0) [(4, bV false)] (by have h0 := (x6 a b n m zo zo zo zo); rw [hx1] at h0; exact h0) ?_
  refine AW.ret ?_
  exact kA (.inr rfl) [] (P := ((aJ a b) = false)) zk (by assumption)
end Go.Proofs.YtbicifcgghmhaaaGreat
