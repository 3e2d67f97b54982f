/- Names of positions, texts of maps. No statement is proved here. -/
import Derived.Test.YtdbjebdomdnbkaaGreatZLBy
namespace Go.Proofs.YtdbjebdomdnbkaaGreat
open Go.ChangeShapes Go.WideShapes Go.ChangeAt Go.RowKit
open List renaming append_assoc → kc2, append_nil → kd1, drop → ka5, drop_eq_getElem_cons → kg3, getD → ka0, getD_eq_getElem?_getD → ka8, getElem?_eq_getElem → ka9, take → ka2, take_add_one → kh0, take_of_length_le → kc3
set_option linter.unusedVariables false
set_option linter.unusedSimpArgs false
/-! names of positions, texts of maps -/
def aO (l : List Int) : Int :=
  if l = [70, 76] then 1 else if l = [70, 82] then 2 else if l = [70, 67] then 3 else if l = [76, 70] then 4 else if l = [66, 76] then 5 else if l = [66, 82] then 6 else if l = [83, 76] then 7 else if l = [83, 82] then 8 else 0
def rR (p : Int) : List Int :=
  if p = 1 then [70, 76] else if p = 2 then [70, 82] else if p = 3 then [70, 67] else if p = 4 then [76, 70] else if p = 5 then [66, 76] else if p = 6 then [66, 82] else if p = 7 then [83, 76] else if p = 8 then [83, 82] else [63]
theorem oS (l : List Int) : 0 ≤ aO l ∧ aO l ≤ 8 := by
  unfold aO; (repeat' split) <;> omega
theorem k5y {p : Int} (h : 1 ≤ p ∧ p ≤ 8) : p = 1 ∨ p = 2 ∨ p = 3 ∨ p = 4 ∨ p = 5 ∨ p = 6 ∨ p = 7 ∨ p = 8 := by omega
theorem k2w {l : List Int} (h : ¬ aO l = 0) : rR (aO l) = l := by
  by_cases h1 : l = [70, 76]
  · subst h1; decide
  by_cases h2 : l = [70, 82]
  · subst h2; decide
  by_cases h3 : l = [70, 67]
  · subst h3; decide
  by_cases h4 : l = [76, 70]
  · subst h4; decide
  by_cases h5 : l = [66, 76]
  · subst h5; decide
  by_cases h6 : l = [66, 82]
  · subst h6; decide
  by_cases h7 : l = [83, 76]
  · subst h7; decide
  by_cases h8 : l = [83, 82]
  · subst h8; decide
  exact absurd (by unfold aO; rw [if_neg h1, if_neg h2, if_neg h3, if_neg h4, if_neg h5, if_neg h6, if_neg h7, if_neg h8]) h
theorem k2x {p : Int} (h : 1 ≤ p ∧ p ≤ 8) : (rR p).length = 2 := by
  rcases k5y h with rfl | rfl | rfl | rfl | rfl | rfl | rfl | rfl <;> rfl
theorem k2v {l : List Int} (h : ¬ aO l = 0) : l.length = 2 := by
  have h1 := k2w h
  rw [← h1]; exact k2x (by have := oS l; omega)
def fmT : List Int → List Int
  | [] => []
  | p :: r => [44] ++ rR p ++ fmT r
def fmL : List Int → List Int
  | [] => []
  | p :: r => rR p ++ fmT r
theorem k0c : ∀ a b : List Int, fmT (a ++ b) = fmT a ++ fmT b
  | [], b => rfl
  | p :: r, b => by show [44] ++ rR p ++ fmT (r ++ b) = [44] ++ rR p ++ fmT r ++ fmT b; rw [k0c r b, kc2 ([44] ++ rR p)]
theorem k47 {a : List Int} {p : Int} (h : 1 ≤ a.length) : fmL (a ++ [p]) = fmL a ++ [44] ++ rR p := by
  cases a with
  | nil => exact absurd h (by decide)
  | cons x r =>
    show rR x ++ fmT (r ++ [p]) = rR x ++ fmT r ++ [44] ++ rR p
    rw [k0c]
    show rR x ++ (fmT r ++ ([44] ++ rR p ++ [])) = _
    simp only [kd1, kc2]
theorem cJ {m : List Int} {i : Nat} (h : i < m.length) : ka2 (i + 1) m = ka2 i m ++ [ka0 m i 0] := by
  rw [kh0, ka9 h, ka8, ka9 h]; rfl
def FB (m : List Int) (i : Nat) (b : List Int) : Prop := b = fmL (ka2 i m)
theorem FB.zero (m : List Int) : FB m 0 [] := rfl
theorem FB.one {m b : List Int} (h : 0 < m.length) (hb : b = rR (ka0 m 0 0)) : FB m (0 + 1) b := by
  unfold FB; rw [cJ h, hb]; show _ = rR _ ++ []; rw [kd1]
theorem FB.step {m b c q : List Int} {i : Nat} (h : FB m i b) (h1 : 1 ≤ i) (hi : i < m.length) (hq : q = rR (ka0 m i 0)) (hc : c = b ++ [44] ++ q) : FB m (i + 1) c := by
  unfold FB at *
  rw [cJ hi, k47 (by rw [List.length_take]; omega), ← h, ← hq, hc]
theorem FB.fin {m b : List Int} {i : Nat} (h : FB m i b) (hi : m.length ≤ i) : b = fmL m := by
  unfold FB at h; rw [kc3 hi] at h; exact h
theorem FB.z {m b : List Int} {i : Nat} (h : FB m i b) (h0 : i = 0) : b = [] := by subst h0; exact h
/-! a text in parts -/
def rQ : List Int → List (List Int)
  | [] => [[]]
  | x :: r => if x = 44 then [] :: rQ r else match rQ r with
    | [] => [[x]]
    | w :: ws => (x :: w) :: ws
theorem u1w : ∀ l, rQ l ≠ []
  | [] => by simp [rQ]
  | x :: r => by
    unfold rQ
    split
    · simp
    · split <;> simp
def prF : Nat → List Int → Option (List Int)
  | 0, _ => none
  | n + 1, s => match s with
    | a :: b :: r => if aO [a, b] = 0 then none else match r with
      | [] => some [aO [a, b]]
      | c :: r2 => if c = 44 then (prF n r2).map (aO [a, b] :: ·) else none
    | _ => none
def sI : List (List Int) → Option (List Int)
  | [] => some []
  | w :: ws => if aO w = 0 then none else (sI ws).map (aO w :: ·)
theorem u5r (a : Int) : aO [a] = 0 := Decidable.byContradiction fun h => by have := k2v h; simp at this
theorem wU : aO [] = 0 := by decide
theorem u8g (a b c : Int) (r : List Int) : aO (a :: b :: c :: r) = 0 := Decidable.byContradiction fun h => by have := k2v h; simp at this
theorem u5q (b : Int) : aO [44, b] = 0 := Decidable.byContradiction fun h => by
  have h1 := k2w h
  rcases k5y (show 1 ≤ aO [44, b] ∧ aO [44, b] ≤ 8 by have := oS [44, b]; omega) with e | e | e | e | e | e | e | e <;> (rw [e] at h1; revert h1; simp [rR])
theorem u5p (a : Int) : aO [a, 44] = 0 := Decidable.byContradiction fun h => by
  have h1 := k2w h
  rcases k5y (show 1 ≤ aO [a, 44] ∧ aO [a, 44] ≤ 8 by have := oS [a, 44]; omega) with e | e | e | e | e | e | e | e <;> (rw [e] at h1; revert h1; simp [rR])
theorem zP (r : List Int) : rQ (44 :: r) = [] :: rQ r := by rw [rQ]; rfl
theorem zO {x : Int} (h : ¬ x = 44) (r : List Int) : ∃ w ws, rQ r = w :: ws ∧ rQ (x :: r) = (x :: w) :: ws := by
  cases e : rQ r with
  | nil => exact absurd e (u1w r)
  | cons w ws => exact ⟨w, ws, rfl, by rw [rQ, if_neg h, e]⟩
theorem u0g : ∀ (n : Nat) (s : List Int), s.length < n → sI (rQ s) = prF n s
  | 0, s, h => absurd h (Nat.not_lt_zero _)
  | n + 1, [], _ => by
    show (if aO [] = 0 then none else _) = none
    rw [if_pos wU]
  | n + 1, [a], _ => by
    show sI (rQ [a]) = none
    by_cases ha : a = 44
    · subst ha; rw [zP]; show (if aO [] = 0 then none else _) = none; rw [if_pos wU]
    · obtain ⟨w, ws, e1, e2⟩ := zO ha []
      have e3 : w = [] := by
        have : rQ [] = [[]] := rfl
        rw [this] at e1; simp at e1; exact e1.1
      rw [e2, e3]; show (if aO [a] = 0 then none else _) = none; rw [if_pos (u5r a)]
  | n + 1, a :: b :: r, h => by
    show _ = (if aO [a, b] = 0 then none else match r with
      | [] => some [aO [a, b]]
      | c :: r2 => if c = 44 then (prF n r2).map (aO [a, b] :: ·) else none)
    by_cases ha : a = 44
    · subst ha
      rw [zP, if_pos (u5q b)]; show (if aO [] = 0 then none else _) = none; rw [if_pos wU]
    · obtain ⟨w, ws, e1, e2⟩ := zO ha (b :: r)
      rw [e2]
      by_cases hb : b = 44
      · subst hb
        rw [zP] at e1
        have e3 : w = [] := by simp at e1; exact e1.1
        rw [e3, if_pos (u5p a)]; show (if aO [a] = 0 then none else _) = none; rw [if_pos (u5r a)]
      · obtain ⟨w2, ws2, e3, e4⟩ := zO hb r
        rw [e4] at e1
        simp only [List.cons.injEq] at e1
        obtain ⟨rfl, rfl⟩ := e1
        cases r with
        | nil =>
          have e5 : rQ [] = [[]] := rfl
          rw [e5] at e3
          simp only [List.cons.injEq] at e3
          obtain ⟨rfl, rfl⟩ := e3
          show (if aO [a, b] = 0 then none else some [aO [a, b]]) = _
          rfl
        | cons c r2 =>
          by_cases hc : c = 44
          · subst hc
            rw [zP] at e3
            simp only [List.cons.injEq] at e3
            obtain ⟨rfl, rfl⟩ := e3
            show (if aO [a, b] = 0 then none else (sI (rQ r2)).map (aO [a, b] :: ·)) = _
            rw [u0g n r2 (by simp at h; omega)]
            rfl
          · obtain ⟨w3, ws3, e5, e6⟩ := zO hc r2
            rw [e6] at e3
            simp only [List.cons.injEq] at e3
            obtain ⟨rfl, rfl⟩ := e3
            show (if aO (a :: b :: c :: w3) = 0 then none else _) = _
            rw [if_pos (u8g a b c w3)]
            show none = (if aO [a, b] = 0 then none else if c = 44 then _ else none)
            rw [if_neg hc]
            split <;> rfl
def rdP (s : List Int) : Option (List Int) := sI (rQ s)
/-! places -/
def uJ (l : List Int) (v : Int) : Nat → Int
  | 0 => -1
  | k + 1 => if 0 ≤ uJ l v k then uJ l v k else if ka0 l k 0 = v then (k : Int) else -1
theorem hU {l : List Int} {v : Int} {k : Nat} (h : uJ l v k = -1) (h2 : ¬ ka0 l k 0 = v) : uJ l v (k + 1) = -1 := by
  show (if 0 ≤ uJ l v k then _ else _) = _
  rw [if_neg (by omega), if_neg h2]
theorem fR {l : List Int} {v : Int} {k : Nat} (h : uJ l v k = -1) (h2 : ka0 l k 0 = v) : ∀ n, k < n → uJ l v n = (k : Int)
  | n + 1, hn => by
    by_cases hk : k = n
    · subst hk
      show (if 0 ≤ uJ l v k then _ else _) = _
      rw [if_neg (by omega), if_pos h2]
    · have := fR h h2 n (by omega)
      show (if 0 ≤ uJ l v n then _ else _) = _
      rw [if_pos (by omega)]; exact this
theorem cN (l : List Int) (v : Int) : ∀ n, -1 ≤ uJ l v n ∧ uJ l v n < (n : Int)
  | 0 => by show (-1 : Int) ≤ -1 ∧ (-1 : Int) < 0; omega
  | k + 1 => by
    have := cN l v k
    show -1 ≤ (if 0 ≤ uJ l v k then _ else _) ∧ (if 0 ≤ uJ l v k then _ else _) < _
    split
    · omega
    · split <;> omega
theorem nF (l : List Int) (v : Int) : ∀ n, (uJ l v n = -1 ∧ ∀ j, j < n → ¬ ka0 l j 0 = v) ∨ ∃ k, k < n ∧ uJ l v n = (k : Int) ∧ ka0 l k 0 = v ∧ ∀ j, j < k → ¬ ka0 l j 0 = v
  | 0 => .inl ⟨rfl, fun j hj => absurd hj (Nat.not_lt_zero j)⟩
  | n + 1 => by
    rcases nF l v n with ⟨h, h2⟩ | ⟨k, h1, h2, h3, h4⟩
    · by_cases h9 : ka0 l n 0 = v
      · exact .inr ⟨n, by omega, fR h h9 _ (by omega), h9, h2⟩
      · exact .inl ⟨hU h h9, fun j hj => (Nat.lt_succ_iff_lt_or_eq.1 hj).elim (h2 j) (fun e => by subst e; exact h9)⟩
    · refine .inr ⟨k, by omega, ?_, h3, h4⟩
      show (if 0 ≤ uJ l v n then _ else _) = _
      rw [if_pos (by omega)]; exact h2
theorem o6 {l : List Int} {v : Int} : v ∈ l ↔ ∃ j, j < l.length ∧ ka0 l j 0 = v := by
  constructor
  · intro h
    obtain ⟨j, hj, e⟩ := List.mem_iff_getElem.1 h
    exact ⟨j, hj, by rw [ka8, ka9 hj]; exact e⟩
  · rintro ⟨j, hj, e⟩
    rw [ka8, ka9 hj] at e
    have e : l[j] = v := e
    rw [← e]; exact List.getElem_mem hj
/-! valid maps -/
def chE (l : List Int) (n j : Nat) : Bool := decide (1 ≤ ka0 l j 0 ∧ ka0 l j 0 ≤ 8 ∧ uJ l (ka0 l j 0) n = (j : Int))
def fG (l : List Int) (n : Nat) : Bool := decide (1 ≤ n ∧ n ≤ 8) && (List.range n).all (chE l n)
theorem k64 {l : List Int} {n : Nat} (h1 : 1 ≤ n ∧ n ≤ 8) (h : ∀ j, j < n → chE l n j = true) : fG l n = true :=
  Bool.and_eq_true_iff.2 ⟨decide_eq_true h1, List.all_eq_true.2 fun j hj => h j (List.mem_range.1 hj)⟩
theorem k0h {l : List Int} {n : Nat} (h1 : ¬ (1 ≤ n ∧ n ≤ 8)) : fG l n = false := by unfold fG; rw [decide_eq_false h1]; rfl
theorem tQ {l : List Int} {n k : Nat} (hk : k < n) (h : chE l n k = false) : fG l n = false := by
  cases hb : fG l n with
  | false => rfl
  | true =>
    have := List.all_eq_true.1 (Bool.and_eq_true_iff.1 hb).2 k (List.mem_range.2 hk)
    rw [h] at this; cases this
theorem u0z {l : List Int} {n : Nat} (h : fG l n = true) : 1 ≤ n ∧ n ≤ 8 := of_decide_eq_true (Bool.and_eq_true_iff.1 h).1
theorem pZ {l : List Int} {n j : Nat} (h : fG l n = true) (hj : j < n) : 1 ≤ ka0 l j 0 ∧ ka0 l j 0 ≤ 8 ∧ uJ l (ka0 l j 0) n = (j : Int) := of_decide_eq_true (List.all_eq_true.1 (Bool.and_eq_true_iff.1 h).2 j (List.mem_range.2 hj))
theorem sP {l : List Int} : l.Nodup ↔ ∀ i j, i < j → j < l.length → ¬ ka0 l i 0 = ka0 l j 0 := by
  rw [List.nodup_iff_pairwise_ne, List.pairwise_iff_getElem]
  constructor
  · intro h i j hij hj e
    rw [ka8, ka9 (by omega), ka8, ka9 hj] at e
    exact h i j (by omega) hj hij e
  · intro h i j hi hj hij e
    refine h i j hij hj ?_
    rw [ka8, ka9 hi, ka8, ka9 hj]
    exact e
theorem k98 {l : List Int} {n : Nat} (hn : l.length = n) : fG l n = true ↔ (1 ≤ n ∧ n ≤ 8) ∧ (∀ x ∈ l, 1 ≤ x ∧ x ≤ 8) ∧ l.Nodup := by
  subst hn
  constructor
  · intro h
    refine ⟨u0z h, fun x hx => ?_, sP.2 fun i j hij hj e => ?_⟩
    · obtain ⟨j, hj, rfl⟩ := o6.1 hx
      have := pZ h hj; omega
    · have h1 := (pZ h (show i < l.length by omega)).2.2
      have h2 := (pZ h hj).2.2
      rw [e] at h1; omega
  · rintro ⟨h1, h2, h3⟩
    refine k64 h1 fun j hj => decide_eq_true ?_
    have hx := h2 _ (o6.2 ⟨j, hj, rfl⟩)
    refine ⟨hx.1, hx.2, ?_⟩
    rcases nF l (ka0 l j 0) l.length with ⟨_, h⟩ | ⟨k, k1, k2, k3, k4⟩
    · exact absurd rfl (h j hj)
    · rw [k2]
      rcases Nat.lt_trichotomy k j with h | h | h
      · exact absurd k3 (sP.1 h3 k j h hj)
      · rw [h]
      · exact absurd rfl (k4 j h)
/-! the code: after so many pieces -/
def PA (L : List (List Int)) (i : Nat) (m : List Int) : Prop := sI (ka2 i L) = some m
theorem zZ : ∀ (a b : List (List Int)), sI (a ++ b) = (sI a).bind fun x => (sI b).map (x ++ ·)
  | [], b => by show sI b = (sI b).map _; cases sI b <;> rfl
  | w :: a, b => by
    show (if aO w = 0 then none else (sI (a ++ b)).map (aO w :: ·)) = (if aO w = 0 then none else (sI a).map (aO w :: ·)).bind _
    by_cases h : aO w = 0
    · rw [if_pos h, if_pos h]; rfl
    · rw [if_neg h, if_neg h, zZ a b]
      cases sI a with
      | none => rfl
      | some x => cases sI b <;> rfl
theorem PA.zero (L : List (List Int)) : PA L 0 [] := rfl
theorem wL {m : List (List Int)} {i : Nat} (h : i < m.length) : ka2 (i + 1) m = ka2 i m ++ [ka0 m i []] := by
  rw [kh0, ka9 h, ka8, ka9 h]; rfl
theorem PA.step {L : List (List Int)} {i : Nat} {m : List Int} {p : Int} (h : PA L i m) (hi : i < L.length) (hp : ¬ aO (ka0 L i []) = 0) (hq : p = aO (ka0 L i [])) : PA L (i + 1) (m ++ [p]) := by
  unfold PA at *
  rw [wL hi, zZ, h]
  show (if _ then none else _ : Option (List Int)).map _ = _
  rw [if_neg hp, hq]; rfl
theorem PA.fin {L : List (List Int)} {i : Nat} {m : List Int} (h : PA L i m) (hi : L.length ≤ i) : sI L = some m := by
  unfold PA at h; rw [kc3 hi] at h; exact h
/-! the reference: at a place -/
def PR (s : List Int) (a : Nat) (m : List Int) : Prop := ∀ n, s.length < n → prF n s = (prF (n - m.length) (ka5 a s)).map (m ++ ·)
theorem PR.zero (s : List Int) : PR s 0 [] := fun n h => by
  show prF n s = (prF n s).map _
  cases prF n s <;> rfl
theorem k26 {s : List Int} {a : Nat} (h : a + 2 ≤ s.length) : ka5 a s = ka0 s a 0 :: ka0 s (a + 1) 0 :: ka5 (a + 2) s := by
  rw [kg3 (by omega), kg3 (show a + 1 < s.length by omega)]
  rw [ka8, ka9 (by omega), ka8, ka9 (by omega)]; rfl
theorem k2a {s : List Int} {a : Nat} (h : a + 2 ≤ s.length) : ka2 2 (ka5 a s) = [ka0 s a 0, ka0 s (a + 1) 0] := by
  rw [k26 h]; rfl
theorem zX {n a : Nat} {s : List Int} (h : a + 2 ≤ s.length) : prF (n + 1) (ka5 a s) = if aO (ka2 2 (ka5 a s)) = 0 then none else match ka5 (a + 2) s with
      | [] => some [aO (ka2 2 (ka5 a s))]
      | c :: r2 => if c = 44 then (prF n r2).map (aO (ka2 2 (ka5 a s)) :: ·) else none := by
  rw [k2a h, k26 h]; rfl
theorem PR.last {s : List Int} {a : Nat} {m : List Int} {p : Int} (h : PR s a m) (hm : 3 * m.length = a) (h2 : s.length = a + 2) (hp : ¬ aO (ka2 2 (ka5 a s)) = 0) (hq : p = aO (ka2 2 (ka5 a s))) : rdP s = some (m ++ [p]) := by
  unfold rdP
  rw [u0g _ _ (Nat.lt_succ_self _), h _ (Nat.lt_succ_self _)]
  obtain ⟨n, hn⟩ : ∃ n, s.length + 1 - m.length = n + 1 := ⟨s.length - m.length, by omega⟩
  rw [hn, zX (by omega), if_neg hp, List.drop_eq_nil_of_le (by omega), hq]; rfl
theorem PR.step {s : List Int} {a : Nat} {m : List Int} {p : Int} (h : PR s a m) (hm : 3 * m.length = a) (h2 : a + 2 < s.length) (hc : ka0 s (a + 2) 0 = 44) (hp : ¬ aO (ka2 2 (ka5 a s)) = 0) (hq : p = aO (ka2 2 (ka5 a s))) : PR s (a + 3) (m ++ [p]) := fun n hn => by
  rw [h n hn]
  obtain ⟨k, hk⟩ : ∃ k, n - m.length = k + 1 := ⟨n - m.length - 1, by omega⟩
  rw [hk, zX (by omega), if_neg hp, kg3 h2]
  rw [ka8, ka9 h2] at hc
  have hc : s[a + 2] = 44 := hc
  show (if _ then _ else none : Option (List Int)).map _ = _
  rw [if_pos hc, hq, List.length_append, show n - (m.length + [aO (ka2 2 (ka5 a s))].length) = k by simp only [List.length_cons, List.length_nil]; omega, show a + 2 + 1 = a + 3 by omega]
  cases prF k (ka5 (a + 3) s) with
  | none => rfl
  | some x =>
    show some (m ++ (aO (ka2 2 (ka5 a s)) :: x)) = some (m ++ [aO (ka2 2 (ka5 a s))] ++ x)
    rw [kc2]; rfl
end Go.Proofs.YtdbjebdomdnbkaaGreat
