/- Names of positions, texts of maps. No statement is proved here. -/
import Derived.Test.YtalbpleglapihaaZLBy
namespace Go.Proofs.Ytalbpleglapihaa
open Go.ChangeShapes Go.WideShapes Go.ChangeAt Go.RowKit
set_option linter.unusedVariables false
set_option linter.unusedSimpArgs false
def stD (xs : List (List Int)) : List D := xs.map fun l => D.lit (.string (strOfNums l))
theorem k3x (xs : List (List Int)) : (stD xs).length = xs.length := by unfold stD; simp
/-! names of positions, texts of maps -/
def vF (l : List Int) : Int :=
  if l = [70, 76] then 1 else if l = [70, 82] then 2 else if l = [70, 67] then 3 else if l = [76, 70] then 4 else if l = [66, 76] then 5 else if l = [66, 82] then 6 else if l = [83, 76] then 7 else if l = [83, 82] then 8 else 0
def nK (p : Int) : List Int :=
  if p = 1 then [70, 76] else if p = 2 then [70, 82] else if p = 3 then [70, 67] else if p = 4 then [76, 70] else if p = 5 then [66, 76] else if p = 6 then [66, 82] else if p = 7 then [83, 76] else if p = 8 then [83, 82] else [63]
theorem lY (l : List Int) : 0 ≤ vF l ∧ vF l ≤ 8 := by
  unfold vF; (repeat' split) <;> omega
theorem k2z {p : Int} (h : 1 ≤ p ∧ p ≤ 8) : p = 1 ∨ p = 2 ∨ p = 3 ∨ p = 4 ∨ p = 5 ∨ p = 6 ∨ p = 7 ∨ p = 8 := by omega
theorem k06 {l : List Int} (h : ¬ vF l = 0) : nK (vF l) = l := by
  by_cases h1 : l = [70, 76]
  · subst h1; decide
  by_cases h2 : l = [70, 82]
  · subst h2; decide
  by_cases h3 : l = [70, 67]
  · subst h3; decide
  by_cases h4 : l = [76, 70]
  · subst h4; decide
  by_cases h5 : l = [66, 76]
  · subst h5; decide
  by_cases h6 : l = [66, 82]
  · subst h6; decide
  by_cases h7 : l = [83, 76]
  · subst h7; decide
  by_cases h8 : l = [83, 82]
  · subst h8; decide
  exact absurd (by unfold vF; rw [if_neg h1, if_neg h2, if_neg h3, if_neg h4, if_neg h5, if_neg h6, if_neg h7, if_neg h8]) h
theorem k07 {p : Int} (h : 1 ≤ p ∧ p ≤ 8) : (nK p).length = 2 := by
  rcases k2z h with rfl | rfl | rfl | rfl | rfl | rfl | rfl | rfl <;> rfl
theorem k05 {l : List Int} (h : ¬ vF l = 0) : l.length = 2 := by
  have h1 := k06 h
  rw [← h1]; exact k07 (by have := lY l; omega)
def fmT : List Int → List Int
  | [] => []
  | p :: r => [44] ++ nK p ++ fmT r
def fmL : List Int → List Int
  | [] => []
  | p :: r => nK p ++ fmT r
theorem wH : ∀ a b : List Int, fmT (a ++ b) = fmT a ++ fmT b
  | [], b => rfl
  | p :: r, b => by show [44] ++ nK p ++ fmT (r ++ b) = [44] ++ nK p ++ fmT r ++ fmT b; rw [wH r b, List.append_assoc ([44] ++ nK p)]
theorem k1a {a : List Int} {p : Int} (h : 1 ≤ a.length) : fmL (a ++ [p]) = fmL a ++ [44] ++ nK p := by
  cases a with
  | nil => exact absurd h (by decide)
  | cons x r =>
    show nK x ++ fmT (r ++ [p]) = nK x ++ fmT r ++ [44] ++ nK p
    rw [wH]
    show nK x ++ (fmT r ++ ([44] ++ nK p ++ [])) = _
    simp only [List.append_nil, List.append_assoc]
theorem aM {m : List Int} {i : Nat} (h : i < m.length) : List.take (i + 1) m = List.take i m ++ [List.getD m i 0] := by
  rw [List.take_add_one, List.getElem?_eq_getElem h, List.getD_eq_getElem?_getD, List.getElem?_eq_getElem h]; rfl
def FB (m : List Int) (i : Nat) (b : List Int) : Prop := b = fmL (List.take i m)
theorem FB.zero (m : List Int) : FB m 0 [] := rfl
theorem FB.one {m b : List Int} (h : 0 < m.length) (hb : b = nK (List.getD m 0 0)) : FB m (0 + 1) b := by
  unfold FB; rw [aM h, hb]; show _ = nK _ ++ []; rw [List.append_nil]
theorem FB.step {m b c q : List Int} {i : Nat} (h : FB m i b) (h1 : 1 ≤ i) (hi : i < m.length) (hq : q = nK (List.getD m i 0)) (hc : c = b ++ [44] ++ q) : FB m (i + 1) c := by
  unfold FB at *
  rw [aM hi, k1a (by rw [List.length_take]; omega), ← h, ← hq, hc]
theorem FB.fin {m b : List Int} {i : Nat} (h : FB m i b) (hi : m.length ≤ i) : b = fmL m := by
  unfold FB at h; rw [List.take_of_length_le hi] at h; exact h
theorem FB.z {m b : List Int} {i : Nat} (h : FB m i b) (h0 : i = 0) : b = [] := by subst h0; exact h
/-! a text in parts -/
def nJ : List Int → List (List Int)
  | [] => [[]]
  | x :: r => if x = 44 then [] :: nJ r else match nJ r with
    | [] => [[x]]
    | w :: ws => (x :: w) :: ws
theorem k7k : ∀ l, nJ l ≠ []
  | [] => by simp [nJ]
  | x :: r => by
    unfold nJ
    split
    · simp
    · split <;> simp
def prF : Nat → List Int → Option (List Int)
  | 0, _ => none
  | n + 1, s => match s with
    | a :: b :: r => if vF [a, b] = 0 then none else match r with
      | [] => some [vF [a, b]]
      | c :: r2 => if c = 44 then (prF n r2).map (vF [a, b] :: ·) else none
    | _ => none
def oI : List (List Int) → Option (List Int)
  | [] => some []
  | w :: ws => if vF w = 0 then none else (oI ws).map (vF w :: ·)
theorem u0w (a : Int) : vF [a] = 0 := Decidable.byContradiction fun h => by have := k05 h; simp at this
theorem rQ : vF [] = 0 := by decide
theorem u3q (a b c : Int) (r : List Int) : vF (a :: b :: c :: r) = 0 := Decidable.byContradiction fun h => by have := k05 h; simp at this
theorem u0v (b : Int) : vF [44, b] = 0 := Decidable.byContradiction fun h => by
  have h1 := k06 h
  rcases k2z (show 1 ≤ vF [44, b] ∧ vF [44, b] ≤ 8 by have := lY [44, b]; omega) with e | e | e | e | e | e | e | e <;> (rw [e] at h1; revert h1; simp [nK])
theorem u0u (a : Int) : vF [a, 44] = 0 := Decidable.byContradiction fun h => by
  have h1 := k06 h
  rcases k2z (show 1 ≤ vF [a, 44] ∧ vF [a, 44] ≤ 8 by have := lY [a, 44]; omega) with e | e | e | e | e | e | e | e <;> (rw [e] at h1; revert h1; simp [nK])
theorem tP (r : List Int) : nJ (44 :: r) = [] :: nJ r := by rw [nJ]; rfl
theorem tO {x : Int} (h : ¬ x = 44) (r : List Int) : ∃ w ws, nJ r = w :: ws ∧ nJ (x :: r) = (x :: w) :: ws := by
  cases e : nJ r with
  | nil => exact absurd e (k7k r)
  | cons w ws => exact ⟨w, ws, rfl, by rw [nJ, if_neg h, e]⟩
theorem k6b : ∀ (n : Nat) (s : List Int), s.length < n → oI (nJ s) = prF n s
  | 0, s, h => absurd h (Nat.not_lt_zero _)
  | n + 1, [], _ => by
    show (if vF [] = 0 then none else _) = none
    rw [if_pos rQ]
  | n + 1, [a], _ => by
    show oI (nJ [a]) = none
    by_cases ha : a = 44
    · subst ha; rw [tP]; show (if vF [] = 0 then none else _) = none; rw [if_pos rQ]
    · obtain ⟨w, ws, e1, e2⟩ := tO ha []
      have e3 : w = [] := by
        have : nJ [] = [[]] := rfl
        rw [this] at e1; simp at e1; exact e1.1
      rw [e2, e3]; show (if vF [a] = 0 then none else _) = none; rw [if_pos (u0w a)]
  | n + 1, a :: b :: r, h => by
    show _ = (if vF [a, b] = 0 then none else match r with
      | [] => some [vF [a, b]]
      | c :: r2 => if c = 44 then (prF n r2).map (vF [a, b] :: ·) else none)
    by_cases ha : a = 44
    · subst ha
      rw [tP, if_pos (u0v b)]; show (if vF [] = 0 then none else _) = none; rw [if_pos rQ]
    · obtain ⟨w, ws, e1, e2⟩ := tO ha (b :: r)
      rw [e2]
      by_cases hb : b = 44
      · subst hb
        rw [tP] at e1
        have e3 : w = [] := by simp at e1; exact e1.1
        rw [e3, if_pos (u0u a)]; show (if vF [a] = 0 then none else _) = none; rw [if_pos (u0w a)]
      · obtain ⟨w2, ws2, e3, e4⟩ := tO hb r
        rw [e4] at e1
        simp only [List.cons.injEq] at e1
        obtain ⟨rfl, rfl⟩ := e1
        cases r with
        | nil =>
          have e5 : nJ [] = [[]] := rfl
          rw [e5] at e3
          simp only [List.cons.injEq] at e3
          obtain ⟨rfl, rfl⟩ := e3
          show (if vF [a, b] = 0 then none else some [vF [a, b]]) = _
          rfl
        | cons c r2 =>
          by_cases hc : c = 44
          · subst hc
            rw [tP] at e3
            simp only [List.cons.injEq] at e3
            obtain ⟨rfl, rfl⟩ := e3
            show (if vF [a, b] = 0 then none else (oI (nJ r2)).map (vF [a, b] :: ·)) = _
            rw [k6b n r2 (by simp at h; omega)]
            rfl
          · obtain ⟨w3, ws3, e5, e6⟩ := tO hc r2
            rw [e6] at e3
            simp only [List.cons.injEq] at e3
            obtain ⟨rfl, rfl⟩ := e3
            show (if vF (a :: b :: c :: w3) = 0 then none else _) = _
            rw [if_pos (u3q a b c w3)]
            show none = (if vF [a, b] = 0 then none else if c = 44 then _ else none)
            rw [if_neg hc]
            split <;> rfl
def rdP (s : List Int) : Option (List Int) := oI (nJ s)
/-! places -/
def uT (l : List Int) (v : Int) : Nat → Int
  | 0 => -1
  | k + 1 => if 0 ≤ uT l v k then uT l v k else if List.getD l k 0 = v then (k : Int) else -1
theorem jS {l : List Int} {v : Int} {k : Nat} (h : uT l v k = -1) (h2 : ¬ List.getD l k 0 = v) : uT l v (k + 1) = -1 := by
  show (if 0 ≤ uT l v k then _ else _) = _
  rw [if_neg (by omega), if_neg h2]
theorem dL {l : List Int} {v : Int} {k : Nat} (h : uT l v k = -1) (h2 : List.getD l k 0 = v) : ∀ n, k < n → uT l v n = (k : Int)
  | n + 1, hn => by
    by_cases hk : k = n
    · subst hk
      show (if 0 ≤ uT l v k then _ else _) = _
      rw [if_neg (by omega), if_pos h2]
    · have := dL h h2 n (by omega)
      show (if 0 ≤ uT l v n then _ else _) = _
      rw [if_pos (by omega)]; exact this
theorem dK (l : List Int) (v : Int) : ∀ n, -1 ≤ uT l v n ∧ uT l v n < (n : Int)
  | 0 => by show (-1 : Int) ≤ -1 ∧ (-1 : Int) < 0; omega
  | k + 1 => by
    have := dK l v k
    show -1 ≤ (if 0 ≤ uT l v k then _ else _) ∧ (if 0 ≤ uT l v k then _ else _) < _
    split
    · omega
    · split <;> omega
theorem jR (l : List Int) (v : Int) : ∀ n, (uT l v n = -1 ∧ ∀ j, j < n → ¬ List.getD l j 0 = v) ∨ ∃ k, k < n ∧ uT l v n = (k : Int) ∧ List.getD l k 0 = v ∧ ∀ j, j < k → ¬ List.getD l j 0 = v
  | 0 => .inl ⟨rfl, fun j hj => absurd hj (Nat.not_lt_zero j)⟩
  | n + 1 => by
    rcases jR l v n with ⟨h, h2⟩ | ⟨k, h1, h2, h3, h4⟩
    · by_cases h9 : List.getD l n 0 = v
      · exact .inr ⟨n, by omega, dL h h9 _ (by omega), h9, h2⟩
      · exact .inl ⟨jS h h9, fun j hj => (Nat.lt_succ_iff_lt_or_eq.1 hj).elim (h2 j) (fun e => by subst e; exact h9)⟩
    · refine .inr ⟨k, by omega, ?_, h3, h4⟩
      show (if 0 ≤ uT l v n then _ else _) = _
      rw [if_pos (by omega)]; exact h2
theorem l8 {l : List Int} {v : Int} : v ∈ l ↔ ∃ j, j < l.length ∧ List.getD l j 0 = v := by
  constructor
  · intro h
    obtain ⟨j, hj, e⟩ := List.mem_iff_getElem.1 h
    exact ⟨j, hj, by rw [List.getD_eq_getElem?_getD, List.getElem?_eq_getElem hj]; exact e⟩
  · rintro ⟨j, hj, e⟩
    rw [List.getD_eq_getElem?_getD, List.getElem?_eq_getElem hj] at e
    have e : l[j] = v := e
    rw [← e]; exact List.getElem_mem hj
/-! valid maps -/
def chE (l : List Int) (n j : Nat) : Bool := decide (1 ≤ List.getD l j 0 ∧ List.getD l j 0 ≤ 8 ∧ uT l (List.getD l j 0) n = (j : Int))
def iS (l : List Int) (n : Nat) : Bool := decide (1 ≤ n ∧ n ≤ 8) && (List.range n).all (chE l n)
theorem jY {l : List Int} {n : Nat} (h1 : 1 ≤ n ∧ n ≤ 8) (h : ∀ j, j < n → chE l n j = true) : iS l n = true :=
  Bool.and_eq_true_iff.2 ⟨decide_eq_true h1, List.all_eq_true.2 fun j hj => h j (List.mem_range.1 hj)⟩
theorem pK {l : List Int} {n : Nat} (h1 : ¬ (1 ≤ n ∧ n ≤ 8)) : iS l n = false := by unfold iS; rw [decide_eq_false h1]; rfl
theorem pJ {l : List Int} {n k : Nat} (hk : k < n) (h : chE l n k = false) : iS l n = false := by
  cases hb : iS l n with
  | false => rfl
  | true =>
    have := List.all_eq_true.1 (Bool.and_eq_true_iff.1 hb).2 k (List.mem_range.2 hk)
    rw [h] at this; cases this
theorem k6x {l : List Int} {n : Nat} (h : iS l n = true) : 1 ≤ n ∧ n ≤ 8 := of_decide_eq_true (Bool.and_eq_true_iff.1 h).1
theorem m5 {l : List Int} {n j : Nat} (h : iS l n = true) (hj : j < n) : 1 ≤ List.getD l j 0 ∧ List.getD l j 0 ≤ 8 ∧ uT l (List.getD l j 0) n = (j : Int) := of_decide_eq_true (List.all_eq_true.1 (Bool.and_eq_true_iff.1 h).2 j (List.mem_range.2 hj))
theorem oP {l : List Int} : l.Nodup ↔ ∀ i j, i < j → j < l.length → ¬ List.getD l i 0 = List.getD l j 0 := by
  rw [List.nodup_iff_pairwise_ne, List.pairwise_iff_getElem]
  constructor
  · intro h i j hij hj e
    rw [List.getD_eq_getElem?_getD, List.getElem?_eq_getElem (by omega), List.getD_eq_getElem?_getD, List.getElem?_eq_getElem hj] at e
    exact h i j (by omega) hj hij e
  · intro h i j hi hj hij e
    refine h i j hij hj ?_
    rw [List.getD_eq_getElem?_getD, List.getElem?_eq_getElem hi, List.getD_eq_getElem?_getD, List.getElem?_eq_getElem hj]
    exact e
theorem k5m {l : List Int} {n : Nat} (hn : l.length = n) : iS l n = true ↔ (1 ≤ n ∧ n ≤ 8) ∧ (∀ x ∈ l, 1 ≤ x ∧ x ≤ 8) ∧ l.Nodup := by
  subst hn
  constructor
  · intro h
    refine ⟨k6x h, fun x hx => ?_, oP.2 fun i j hij hj e => ?_⟩
    · obtain ⟨j, hj, rfl⟩ := l8.1 hx
      have := m5 h hj; omega
    · have h1 := (m5 h (show i < l.length by omega)).2.2
      have h2 := (m5 h hj).2.2
      rw [e] at h1; omega
  · rintro ⟨h1, h2, h3⟩
    refine jY h1 fun j hj => decide_eq_true ?_
    have hx := h2 _ (l8.2 ⟨j, hj, rfl⟩)
    refine ⟨hx.1, hx.2, ?_⟩
    rcases jR l (List.getD l j 0) l.length with ⟨_, h⟩ | ⟨k, k1, k2, k3, k4⟩
    · exact absurd rfl (h j hj)
    · rw [k2]
      rcases Nat.lt_trichotomy k j with h | h | h
      · exact absurd k3 (oP.1 h3 k j h hj)
      · rw [h]
      · exact absurd rfl (k4 j h)
/-! the code: after so many pieces -/
def PA (L : List (List Int)) (i : Nat) (m : List Int) : Prop := oI (List.take i L) = some m
theorem tX : ∀ (a b : List (List Int)), oI (a ++ b) = (oI a).bind fun x => (oI b).map (x ++ ·)
  | [], b => by show oI b = (oI b).map _; cases oI b <;> rfl
  | w :: a, b => by
    show (if vF w = 0 then none else (oI (a ++ b)).map (vF w :: ·)) = (if vF w = 0 then none else (oI a).map (vF w :: ·)).bind _
    by_cases h : vF w = 0
    · rw [if_pos h, if_pos h]; rfl
    · rw [if_neg h, if_neg h, tX a b]
      cases oI a with
      | none => rfl
      | some x => cases oI b <;> rfl
theorem PA.zero (L : List (List Int)) : PA L 0 [] := rfl
theorem rH {m : List (List Int)} {i : Nat} (h : i < m.length) : List.take (i + 1) m = List.take i m ++ [List.getD m i []] := by
  rw [List.take_add_one, List.getElem?_eq_getElem h, List.getD_eq_getElem?_getD, List.getElem?_eq_getElem h]; rfl
theorem PA.step {L : List (List Int)} {i : Nat} {m : List Int} {p : Int} (h : PA L i m) (hi : i < L.length) (hp : ¬ vF (List.getD L i []) = 0) (hq : p = vF (List.getD L i [])) : PA L (i + 1) (m ++ [p]) := by
  unfold PA at *
  rw [rH hi, tX, h]
  show (if _ then none else _ : Option (List Int)).map _ = _
  rw [if_neg hp, hq]; rfl
theorem PA.fin {L : List (List Int)} {i : Nat} {m : List Int} (h : PA L i m) (hi : L.length ≤ i) : oI L = some m := by
  unfold PA at h; rw [List.take_of_length_le hi] at h; exact h
/-! the reference: at a place -/
def PR (s : List Int) (a : Nat) (m : List Int) : Prop := ∀ n, s.length < n → prF n s = (prF (n - m.length) (List.drop a s)).map (m ++ ·)
theorem PR.zero (s : List Int) : PR s 0 [] := fun n h => by
  show prF n s = (prF n s).map _
  cases prF n s <;> rfl
theorem zQ {s : List Int} {a : Nat} (h : a + 2 ≤ s.length) : List.drop a s = List.getD s a 0 :: List.getD s (a + 1) 0 :: List.drop (a + 2) s := by
  rw [List.drop_eq_getElem_cons (by omega), List.drop_eq_getElem_cons (show a + 1 < s.length by omega)]
  rw [List.getD_eq_getElem?_getD, List.getElem?_eq_getElem (by omega), List.getD_eq_getElem?_getD, List.getElem?_eq_getElem (by omega)]; rfl
theorem zS {s : List Int} {a : Nat} (h : a + 2 ≤ s.length) : List.take 2 (List.drop a s) = [List.getD s a 0, List.getD s (a + 1) 0] := by
  rw [zQ h]; rfl
theorem tV {n a : Nat} {s : List Int} (h : a + 2 ≤ s.length) : prF (n + 1) (List.drop a s) = if vF (List.take 2 (List.drop a s)) = 0 then none else match List.drop (a + 2) s with
      | [] => some [vF (List.take 2 (List.drop a s))]
      | c :: r2 => if c = 44 then (prF n r2).map (vF (List.take 2 (List.drop a s)) :: ·) else none := by
  rw [zS h, zQ h]; rfl
theorem PR.last {s : List Int} {a : Nat} {m : List Int} {p : Int} (h : PR s a m) (hm : 3 * m.length = a) (h2 : s.length = a + 2) (hp : ¬ vF (List.take 2 (List.drop a s)) = 0) (hq : p = vF (List.take 2 (List.drop a s))) : rdP s = some (m ++ [p]) := by
  unfold rdP
  rw [k6b _ _ (Nat.lt_succ_self _), h _ (Nat.lt_succ_self _)]
  obtain ⟨n, hn⟩ : ∃ n, s.length + 1 - m.length = n + 1 := ⟨s.length - m.length, by omega⟩
  rw [hn, tV (by omega), if_neg hp, List.drop_eq_nil_of_le (by omega), hq]; rfl
theorem PR.step {s : List Int} {a : Nat} {m : List Int} {p : Int} (h : PR s a m) (hm : 3 * m.length = a) (h2 : a + 2 < s.length) (hc : List.getD s (a + 2) 0 = 44) (hp : ¬ vF (List.take 2 (List.drop a s)) = 0) (hq : p = vF (List.take 2 (List.drop a s))) : PR s (a + 3) (m ++ [p]) := fun n hn => by
  rw [h n hn]
  obtain ⟨k, hk⟩ : ∃ k, n - m.length = k + 1 := ⟨n - m.length - 1, by omega⟩
  rw [hk, tV (by omega), if_neg hp, List.drop_eq_getElem_cons h2]
  rw [List.getD_eq_getElem?_getD, List.getElem?_eq_getElem h2] at hc
  have hc : s[a + 2] = 44 := hc
  show (if _ then _ else none : Option (List Int)).map _ = _
  rw [if_pos hc, hq, List.length_append, show n - (m.length + [vF (List.take 2 (List.drop a s))].length) = k by simp only [List.length_cons, List.length_nil]; omega, show a + 2 + 1 = a + 3 by omega]
  cases prF k (List.drop (a + 3) s) with
  | none => rfl
  | some x =>
    show some (m ++ (vF (List.take 2 (List.drop a s)) :: x)) = some (m ++ [vF (List.take 2 (List.drop a s))] ++ x)
    rw [List.append_assoc]; rfl
end Go.Proofs.Ytalbpleglapihaa
