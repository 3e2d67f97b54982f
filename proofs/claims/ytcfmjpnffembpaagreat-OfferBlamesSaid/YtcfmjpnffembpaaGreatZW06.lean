/- Names of positions, texts of maps. No statement is proved here. -/
import Derived.Test.YtcfmjpnffembpaaGreatZLBy
namespace Go.Proofs.YtcfmjpnffembpaaGreat
open Go.ChangeShapes Go.WideShapes Go.ChangeAt Go.RowKit
open List renaming append_assoc → kd2, append_nil → kd7, drop → ka3, drop_eq_getElem_cons → kd3, getD → ka1, getD_eq_getElem?_getD → ka7, getElem?_eq_getElem → ka8, take → ka5, take_add_one → kk3, take_of_length_le → kb7
set_option linter.unusedVariables false
set_option linter.unusedSimpArgs false
def stD (xs : List (List Int)) : List D := xs.map fun l => D.lit (.string (strOfNums l))
theorem jX (xs : List (List Int)) : (stD xs).length = xs.length := by unfold stD; simp
/-! names of positions, texts of maps -/
def b8 (l : List Int) : Int :=
  if l = [70, 76] then 1 else if l = [70, 82] then 2 else if l = [70, 67] then 3 else if l = [76, 70] then 4 else if l = [66, 76] then 5 else if l = [66, 82] then 6 else if l = [83, 76] then 7 else if l = [83, 82] then 8 else 0
def x5 (p : Int) : List Int :=
  if p = 1 then [70, 76] else if p = 2 then [70, 82] else if p = 3 then [70, 67] else if p = 4 then [76, 70] else if p = 5 then [66, 76] else if p = 6 then [66, 82] else if p = 7 then [83, 76] else if p = 8 then [83, 82] else [63]
theorem t5 (l : List Int) : 0 ≤ b8 l ∧ b8 l ≤ 8 := by
  unfold b8; (repeat' split) <;> omega
theorem u02 {p : Int} (h : 1 ≤ p ∧ p ≤ 8) : p = 1 ∨ p = 2 ∨ p = 3 ∨ p = 4 ∨ p = 5 ∨ p = 6 ∨ p = 7 ∨ p = 8 := by omega
theorem k70 {l : List Int} (h : ¬ b8 l = 0) : x5 (b8 l) = l := by
  by_cases h1 : l = [70, 76]
  · subst h1; decide
  by_cases h2 : l = [70, 82]
  · subst h2; decide
  by_cases h3 : l = [70, 67]
  · subst h3; decide
  by_cases h4 : l = [76, 70]
  · subst h4; decide
  by_cases h5 : l = [66, 76]
  · subst h5; decide
  by_cases h6 : l = [66, 82]
  · subst h6; decide
  by_cases h7 : l = [83, 76]
  · subst h7; decide
  by_cases h8 : l = [83, 82]
  · subst h8; decide
  exact absurd (by unfold b8; rw [if_neg h1, if_neg h2, if_neg h3, if_neg h4, if_neg h5, if_neg h6, if_neg h7, if_neg h8]) h
theorem k71 {p : Int} (h : 1 ≤ p ∧ p ≤ 8) : (x5 p).length = 2 := by
  rcases u02 h with rfl | rfl | rfl | rfl | rfl | rfl | rfl | rfl <;> rfl
theorem k6u {l : List Int} (h : ¬ b8 l = 0) : l.length = 2 := by
  have h1 := k70 h
  rw [← h1]; exact k71 (by have := t5 l; omega)
def fmT : List Int → List Int
  | [] => []
  | p :: r => [44] ++ x5 p ++ fmT r
def fmL : List Int → List Int
  | [] => []
  | p :: r => x5 p ++ fmT r
theorem k42 : ∀ a b : List Int, fmT (a ++ b) = fmT a ++ fmT b
  | [], b => rfl
  | p :: r, b => by show [44] ++ x5 p ++ fmT (r ++ b) = [44] ++ x5 p ++ fmT r ++ fmT b; rw [k42 r b, kd2 ([44] ++ x5 p)]
theorem k8j {a : List Int} {p : Int} (h : 1 ≤ a.length) : fmL (a ++ [p]) = fmL a ++ [44] ++ x5 p := by
  cases a with
  | nil => exact absurd h (by decide)
  | cons x r =>
    show x5 x ++ fmT (r ++ [p]) = x5 x ++ fmT r ++ [44] ++ x5 p
    rw [k42]
    show x5 x ++ (fmT r ++ ([44] ++ x5 p ++ [])) = _
    simp only [kd7, kd2]
theorem eA {m : List Int} {i : Nat} (h : i < m.length) : ka5 (i + 1) m = ka5 i m ++ [ka1 m i 0] := by
  rw [kk3, ka8 h, ka7, ka8 h]; rfl
def FB (m : List Int) (i : Nat) (b : List Int) : Prop := b = fmL (ka5 i m)
theorem FB.zero (m : List Int) : FB m 0 [] := rfl
theorem FB.one {m b : List Int} (h : 0 < m.length) (hb : b = x5 (ka1 m 0 0)) : FB m (0 + 1) b := by
  unfold FB; rw [eA h, hb]; show _ = x5 _ ++ []; rw [kd7]
theorem FB.step {m b c q : List Int} {i : Nat} (h : FB m i b) (h1 : 1 ≤ i) (hi : i < m.length) (hq : q = x5 (ka1 m i 0)) (hc : c = b ++ [44] ++ q) : FB m (i + 1) c := by
  unfold FB at *
  rw [eA hi, k8j (by rw [List.length_take]; omega), ← h, ← hq, hc]
theorem FB.fin {m b : List Int} {i : Nat} (h : FB m i b) (hi : m.length ≤ i) : b = fmL m := by
  unfold FB at h; rw [kb7 hi] at h; exact h
theorem FB.z {m b : List Int} {i : Nat} (h : FB m i b) (h0 : i = 0) : b = [] := by subst h0; exact h
/-! a text in parts -/
def xZ : List Int → List (List Int)
  | [] => [[]]
  | x :: r => if x = 44 then [] :: xZ r else match xZ r with
    | [] => [[x]]
    | w :: ws => (x :: w) :: ws
theorem u5s : ∀ l, xZ l ≠ []
  | [] => by simp [xZ]
  | x :: r => by
    unfold xZ
    split
    · simp
    · split <;> simp
def prF : Nat → List Int → Option (List Int)
  | 0, _ => none
  | n + 1, s => match s with
    | a :: b :: r => if b8 [a, b] = 0 then none else match r with
      | [] => some [b8 [a, b]]
      | c :: r2 => if c = 44 then (prF n r2).map (b8 [a, b] :: ·) else none
    | _ => none
def zZ : List (List Int) → Option (List Int)
  | [] => some []
  | w :: ws => if b8 w = 0 then none else (zZ ws).map (b8 w :: ·)
theorem u9i (a : Int) : b8 [a] = 0 := Decidable.byContradiction fun h => by have := k6u h; simp at this
theorem k1v : b8 [] = 0 := by decide
theorem v21 (a b c : Int) (r : List Int) : b8 (a :: b :: c :: r) = 0 := Decidable.byContradiction fun h => by have := k6u h; simp at this
theorem u9h (b : Int) : b8 [44, b] = 0 := Decidable.byContradiction fun h => by
  have h1 := k70 h
  rcases u02 (show 1 ≤ b8 [44, b] ∧ b8 [44, b] ≤ 8 by have := t5 [44, b]; omega) with e | e | e | e | e | e | e | e <;> (rw [e] at h1; revert h1; simp [x5])
theorem u9g (a : Int) : b8 [a, 44] = 0 := Decidable.byContradiction fun h => by
  have h1 := k70 h
  rcases u02 (show 1 ≤ b8 [a, 44] ∧ b8 [a, 44] ≤ 8 by have := t5 [a, 44]; omega) with e | e | e | e | e | e | e | e <;> (rw [e] at h1; revert h1; simp [x5])
theorem k32 (r : List Int) : xZ (44 :: r) = [] :: xZ r := by rw [xZ]; rfl
theorem k31 {x : Int} (h : ¬ x = 44) (r : List Int) : ∃ w ws, xZ r = w :: ws ∧ xZ (x :: r) = (x :: w) :: ws := by
  cases e : xZ r with
  | nil => exact absurd e (u5s r)
  | cons w ws => exact ⟨w, ws, rfl, by rw [xZ, if_neg h, e]⟩
theorem u47 : ∀ (n : Nat) (s : List Int), s.length < n → zZ (xZ s) = prF n s
  | 0, s, h => absurd h (Nat.not_lt_zero _)
  | n + 1, [], _ => by
    show (if b8 [] = 0 then none else _) = none
    rw [if_pos k1v]
  | n + 1, [a], _ => by
    show zZ (xZ [a]) = none
    by_cases ha : a = 44
    · subst ha; rw [k32]; show (if b8 [] = 0 then none else _) = none; rw [if_pos k1v]
    · obtain ⟨w, ws, e1, e2⟩ := k31 ha []
      have e3 : w = [] := by
        have : xZ [] = [[]] := rfl
        rw [this] at e1; simp at e1; exact e1.1
      rw [e2, e3]; show (if b8 [a] = 0 then none else _) = none; rw [if_pos (u9i a)]
  | n + 1, a :: b :: r, h => by
    show _ = (if b8 [a, b] = 0 then none else match r with
      | [] => some [b8 [a, b]]
      | c :: r2 => if c = 44 then (prF n r2).map (b8 [a, b] :: ·) else none)
    by_cases ha : a = 44
    · subst ha
      rw [k32, if_pos (u9h b)]; show (if b8 [] = 0 then none else _) = none; rw [if_pos k1v]
    · obtain ⟨w, ws, e1, e2⟩ := k31 ha (b :: r)
      rw [e2]
      by_cases hb : b = 44
      · subst hb
        rw [k32] at e1
        have e3 : w = [] := by simp at e1; exact e1.1
        rw [e3, if_pos (u9g a)]; show (if b8 [a] = 0 then none else _) = none; rw [if_pos (u9i a)]
      · obtain ⟨w2, ws2, e3, e4⟩ := k31 hb r
        rw [e4] at e1
        simp only [List.cons.injEq] at e1
        obtain ⟨rfl, rfl⟩ := e1
        cases r with
        | nil =>
          have e5 : xZ [] = [[]] := rfl
          rw [e5] at e3
          simp only [List.cons.injEq] at e3
          obtain ⟨rfl, rfl⟩ := e3
          show (if b8 [a, b] = 0 then none else some [b8 [a, b]]) = _
          rfl
        | cons c r2 =>
          by_cases hc : c = 44
          · subst hc
            rw [k32] at e3
            simp only [List.cons.injEq] at e3
            obtain ⟨rfl, rfl⟩ := e3
            show (if b8 [a, b] = 0 then none else (zZ (xZ r2)).map (b8 [a, b] :: ·)) = _
            rw [u47 n r2 (by simp at h; omega)]
            rfl
          · obtain ⟨w3, ws3, e5, e6⟩ := k31 hc r2
            rw [e6] at e3
            simp only [List.cons.injEq] at e3
            obtain ⟨rfl, rfl⟩ := e3
            show (if b8 (a :: b :: c :: w3) = 0 then none else _) = _
            rw [if_pos (v21 a b c w3)]
            show none = (if b8 [a, b] = 0 then none else if c = 44 then _ else none)
            rw [if_neg hc]
            split <;> rfl
def rdP (s : List Int) : Option (List Int) := zZ (xZ s)
/-! places -/
def qU (l : List Int) (v : Int) : Nat → Int
  | 0 => -1
  | k + 1 => if 0 ≤ qU l v k then qU l v k else if ka1 l k 0 = v then (k : Int) else -1
theorem sR {l : List Int} {v : Int} {k : Nat} (h : qU l v k = -1) (h2 : ¬ ka1 l k 0 = v) : qU l v (k + 1) = -1 := by
  show (if 0 ≤ qU l v k then _ else _) = _
  rw [if_neg (by omega), if_neg h2]
theorem gH {l : List Int} {v : Int} {k : Nat} (h : qU l v k = -1) (h2 : ka1 l k 0 = v) : ∀ n, k < n → qU l v n = (k : Int)
  | n + 1, hn => by
    by_cases hk : k = n
    · subst hk
      show (if 0 ≤ qU l v k then _ else _) = _
      rw [if_neg (by omega), if_pos h2]
    · have := gH h h2 n (by omega)
      show (if 0 ≤ qU l v n then _ else _) = _
      rw [if_pos (by omega)]; exact this
theorem vH (l : List Int) (v : Int) : ∀ n, -1 ≤ qU l v n ∧ qU l v n < (n : Int)
  | 0 => by show (-1 : Int) ≤ -1 ∧ (-1 : Int) < 0; omega
  | k + 1 => by
    have := vH l v k
    show -1 ≤ (if 0 ≤ qU l v k then _ else _) ∧ (if 0 ≤ qU l v k then _ else _) < _
    split
    · omega
    · split <;> omega
theorem k7s {l : List Int} {v : Int} : v ∈ l ↔ ∃ j, j < l.length ∧ ka1 l j 0 = v := by
  constructor
  · intro h
    obtain ⟨j, hj, e⟩ := List.mem_iff_getElem.1 h
    exact ⟨j, hj, by rw [ka7, ka8 hj]; exact e⟩
  · rintro ⟨j, hj, e⟩
    rw [ka7, ka8 hj] at e
    have e : l[j] = v := e
    rw [← e]; exact List.getElem_mem hj
/-! valid maps -/
def chE (l : List Int) (n j : Nat) : Bool := decide (1 ≤ ka1 l j 0 ∧ ka1 l j 0 ≤ 8 ∧ qU l (ka1 l j 0) n = (j : Int))
def nF (l : List Int) (n : Nat) : Bool := decide (1 ≤ n ∧ n ≤ 8) && (List.range n).all (chE l n)
theorem gM {l : List Int} {n : Nat} (h1 : 1 ≤ n ∧ n ≤ 8) (h : ∀ j, j < n → chE l n j = true) : nF l n = true :=
  Bool.and_eq_true_iff.2 ⟨decide_eq_true h1, List.all_eq_true.2 fun j hj => h j (List.mem_range.1 hj)⟩
theorem gO {l : List Int} {n : Nat} (h1 : ¬ (1 ≤ n ∧ n ≤ 8)) : nF l n = false := by unfold nF; rw [decide_eq_false h1]; rfl
theorem gN {l : List Int} {n k : Nat} (hk : k < n) (h : chE l n k = false) : nF l n = false := by
  cases hb : nF l n with
  | false => rfl
  | true =>
    have := List.all_eq_true.1 (Bool.and_eq_true_iff.1 hb).2 k (List.mem_range.2 hk)
    rw [h] at this; cases this
/-! the code: after so many pieces -/
def PA (L : List (List Int)) (i : Nat) (m : List Int) : Prop := zZ (ka5 i L) = some m
theorem k3f : ∀ (a b : List (List Int)), zZ (a ++ b) = (zZ a).bind fun x => (zZ b).map (x ++ ·)
  | [], b => by show zZ b = (zZ b).map _; cases zZ b <;> rfl
  | w :: a, b => by
    show (if b8 w = 0 then none else (zZ (a ++ b)).map (b8 w :: ·)) = (if b8 w = 0 then none else (zZ a).map (b8 w :: ·)).bind _
    by_cases h : b8 w = 0
    · rw [if_pos h, if_pos h]; rfl
    · rw [if_neg h, if_neg h, k3f a b]
      cases zZ a with
      | none => rfl
      | some x => cases zZ b <;> rfl
theorem PA.zero (L : List (List Int)) : PA L 0 [] := rfl
theorem k1n {m : List (List Int)} {i : Nat} (h : i < m.length) : ka5 (i + 1) m = ka5 i m ++ [ka1 m i []] := by
  rw [kk3, ka8 h, ka7, ka8 h]; rfl
theorem PA.step {L : List (List Int)} {i : Nat} {m : List Int} {p : Int} (h : PA L i m) (hi : i < L.length) (hp : ¬ b8 (ka1 L i []) = 0) (hq : p = b8 (ka1 L i [])) : PA L (i + 1) (m ++ [p]) := by
  unfold PA at *
  rw [k1n hi, k3f, h]
  show (if _ then none else _ : Option (List Int)).map _ = _
  rw [if_neg hp, hq]; rfl
theorem PA.fin {L : List (List Int)} {i : Nat} {m : List Int} (h : PA L i m) (hi : L.length ≤ i) : zZ L = some m := by
  unfold PA at h; rw [kb7 hi] at h; exact h
/-! the reference: at a place -/
def PR (s : List Int) (a : Nat) (m : List Int) : Prop := ∀ n, s.length < n → prF n s = (prF (n - m.length) (ka3 a s)).map (m ++ ·)
theorem PR.zero (s : List Int) : PR s 0 [] := fun n h => by
  show prF n s = (prF n s).map _
  cases prF n s <;> rfl
theorem k65 {s : List Int} {a : Nat} (h : a + 2 ≤ s.length) : ka3 a s = ka1 s a 0 :: ka1 s (a + 1) 0 :: ka3 (a + 2) s := by
  rw [kd3 (by omega), kd3 (show a + 1 < s.length by omega)]
  rw [ka7, ka8 (by omega), ka7, ka8 (by omega)]; rfl
theorem k67 {s : List Int} {a : Nat} (h : a + 2 ≤ s.length) : ka5 2 (ka3 a s) = [ka1 s a 0, ka1 s (a + 1) 0] := by
  rw [k65 h]; rfl
theorem k3c {n a : Nat} {s : List Int} (h : a + 2 ≤ s.length) : prF (n + 1) (ka3 a s) = if b8 (ka5 2 (ka3 a s)) = 0 then none else match ka3 (a + 2) s with
      | [] => some [b8 (ka5 2 (ka3 a s))]
      | c :: r2 => if c = 44 then (prF n r2).map (b8 (ka5 2 (ka3 a s)) :: ·) else none := by
  rw [k67 h, k65 h]; rfl
theorem PR.last {s : List Int} {a : Nat} {m : List Int} {p : Int} (h : PR s a m) (hm : 3 * m.length = a) (h2 : s.length = a + 2) (hp : ¬ b8 (ka5 2 (ka3 a s)) = 0) (hq : p = b8 (ka5 2 (ka3 a s))) : rdP s = some (m ++ [p]) := by
  unfold rdP
  rw [u47 _ _ (Nat.lt_succ_self _), h _ (Nat.lt_succ_self _)]
  obtain ⟨n, hn⟩ : ∃ n, s.length + 1 - m.length = n + 1 := ⟨s.length - m.length, by omega⟩
  rw [hn, k3c (by omega), if_neg hp, List.drop_eq_nil_of_le (by omega), hq]; rfl
theorem PR.step {s : List Int} {a : Nat} {m : List Int} {p : Int} (h : PR s a m) (hm : 3 * m.length = a) (h2 : a + 2 < s.length) (hc : ka1 s (a + 2) 0 = 44) (hp : ¬ b8 (ka5 2 (ka3 a s)) = 0) (hq : p = b8 (ka5 2 (ka3 a s))) : PR s (a + 3) (m ++ [p]) := fun n hn => by
  rw [h n hn]
  obtain ⟨k, hk⟩ : ∃ k, n - m.length = k + 1 := ⟨n - m.length - 1, by omega⟩
  rw [hk, k3c (by omega), if_neg hp, kd3 h2]
  rw [ka7, ka8 h2] at hc
  have hc : s[a + 2] = 44 := hc
  show (if _ then _ else none : Option (List Int)).map _ = _
  rw [if_pos hc, hq, List.length_append, show n - (m.length + [b8 (ka5 2 (ka3 a s))].length) = k by simp only [List.length_cons, List.length_nil]; omega, show a + 2 + 1 = a + 3 by omega]
  cases prF k (ka3 (a + 3) s) with
  | none => rfl
  | some x =>
    show some (m ++ (b8 (ka5 2 (ka3 a s)) :: x)) = some (m ++ [b8 (ka5 2 (ka3 a s))] ++ x)
    rw [kd2]; rfl
end Go.Proofs.YtcfmjpnffembpaaGreat
