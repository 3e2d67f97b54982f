/- Names of positions, texts of maps. No statement is proved here. -/
import Derived.Test.YtcfmjpnffembpaaGreatZLBy
namespace Go.Proofs.YtcfmjpnffembpaaGreat
open Go.ChangeShapes Go.WideShapes Go.ChangeAt Go.RowKit
open List renaming append_assoc → kc9, append_nil → kd6, drop → ka4, drop_eq_getElem_cons → kd1, getD → ka1, getD_eq_getElem?_getD → ka7, getElem?_eq_getElem → kb1, take → ka3, take_add_one → kj9, take_of_length_le → kb7
set_option linter.unusedVariables false
set_option linter.unusedSimpArgs false
def stD (xs : List (List Int)) : List D := xs.map fun l => D.lit (.string (strOfNums l))
theorem iN (xs : List (List Int)) : (stD xs).length = xs.length := by unfold stD; simp
/-! names of positions, texts of maps -/
def bF (l : List Int) : Int :=
  if l = [70, 76] then 1 else if l = [70, 82] then 2 else if l = [70, 67] then 3 else if l = [76, 70] then 4 else if l = [66, 76] then 5 else if l = [66, 82] then 6 else if l = [83, 76] then 7 else if l = [83, 82] then 8 else 0
def tJ (p : Int) : List Int :=
  if p = 1 then [70, 76] else if p = 2 then [70, 82] else if p = 3 then [70, 67] else if p = 4 then [76, 70] else if p = 5 then [66, 76] else if p = 6 then [66, 82] else if p = 7 then [83, 76] else if p = 8 then [83, 82] else [63]
theorem rS (l : List Int) : 0 ≤ bF l ∧ bF l ≤ 8 := by
  unfold bF; (repeat' split) <;> omega
theorem k77 {p : Int} (h : 1 ≤ p ∧ p ≤ 8) : p = 1 ∨ p = 2 ∨ p = 3 ∨ p = 4 ∨ p = 5 ∨ p = 6 ∨ p = 7 ∨ p = 8 := by omega
theorem k4m {l : List Int} (h : ¬ bF l = 0) : tJ (bF l) = l := by
  by_cases h1 : l = [70, 76]
  · subst h1; decide
  by_cases h2 : l = [70, 82]
  · subst h2; decide
  by_cases h3 : l = [70, 67]
  · subst h3; decide
  by_cases h4 : l = [76, 70]
  · subst h4; decide
  by_cases h5 : l = [66, 76]
  · subst h5; decide
  by_cases h6 : l = [66, 82]
  · subst h6; decide
  by_cases h7 : l = [83, 76]
  · subst h7; decide
  by_cases h8 : l = [83, 82]
  · subst h8; decide
  exact absurd (by unfold bF; rw [if_neg h1, if_neg h2, if_neg h3, if_neg h4, if_neg h5, if_neg h6, if_neg h7, if_neg h8]) h
theorem k4n {p : Int} (h : 1 ≤ p ∧ p ≤ 8) : (tJ p).length = 2 := by
  rcases k77 h with rfl | rfl | rfl | rfl | rfl | rfl | rfl | rfl <;> rfl
theorem k4g {l : List Int} (h : ¬ bF l = 0) : l.length = 2 := by
  have h1 := k4m h
  rw [← h1]; exact k4n (by have := rS l; omega)
def fmT : List Int → List Int
  | [] => []
  | p :: r => [44] ++ tJ p ++ fmT r
def fmL : List Int → List Int
  | [] => []
  | p :: r => tJ p ++ fmT r
theorem k1q : ∀ a b : List Int, fmT (a ++ b) = fmT a ++ fmT b
  | [], b => rfl
  | p :: r, b => by show [44] ++ tJ p ++ fmT (r ++ b) = [44] ++ tJ p ++ fmT r ++ fmT b; rw [k1q r b, kc9 ([44] ++ tJ p)]
theorem k5o {a : List Int} {p : Int} (h : 1 ≤ a.length) : fmL (a ++ [p]) = fmL a ++ [44] ++ tJ p := by
  cases a with
  | nil => exact absurd h (by decide)
  | cons x r =>
    show tJ x ++ fmT (r ++ [p]) = tJ x ++ fmT r ++ [44] ++ tJ p
    rw [k1q]
    show tJ x ++ (fmT r ++ ([44] ++ tJ p ++ [])) = _
    simp only [kd6, kc9]
theorem dH {m : List Int} {i : Nat} (h : i < m.length) : ka3 (i + 1) m = ka3 i m ++ [ka1 m i 0] := by
  rw [kj9, kb1 h, ka7, kb1 h]; rfl
def FB (m : List Int) (i : Nat) (b : List Int) : Prop := b = fmL (ka3 i m)
theorem FB.zero (m : List Int) : FB m 0 [] := rfl
theorem FB.one {m b : List Int} (h : 0 < m.length) (hb : b = tJ (ka1 m 0 0)) : FB m (0 + 1) b := by
  unfold FB; rw [dH h, hb]; show _ = tJ _ ++ []; rw [kd6]
theorem FB.step {m b c q : List Int} {i : Nat} (h : FB m i b) (h1 : 1 ≤ i) (hi : i < m.length) (hq : q = tJ (ka1 m i 0)) (hc : c = b ++ [44] ++ q) : FB m (i + 1) c := by
  unfold FB at *
  rw [dH hi, k5o (by rw [List.length_take]; omega), ← h, ← hq, hc]
theorem FB.fin {m b : List Int} {i : Nat} (h : FB m i b) (hi : m.length ≤ i) : b = fmL m := by
  unfold FB at h; rw [kb7 hi] at h; exact h
theorem FB.z {m b : List Int} {i : Nat} (h : FB m i b) (h0 : i = 0) : b = [] := by subst h0; exact h
/-! a text in parts -/
def tH : List Int → List (List Int)
  | [] => [[]]
  | x :: r => if x = 44 then [] :: tH r else match tH r with
    | [] => [[x]]
    | w :: ws => (x :: w) :: ws
theorem u1q : ∀ l, tH l ≠ []
  | [] => by simp [tH]
  | x :: r => by
    unfold tH
    split
    · simp
    · split <;> simp
def prF : Nat → List Int → Option (List Int)
  | 0, _ => none
  | n + 1, s => match s with
    | a :: b :: r => if bF [a, b] = 0 then none else match r with
      | [] => some [bF [a, b]]
      | c :: r2 => if c = 44 then (prF n r2).map (bF [a, b] :: ·) else none
    | _ => none
def tZ : List (List Int) → Option (List Int)
  | [] => some []
  | w :: ws => if bF w = 0 then none else (tZ ws).map (bF w :: ·)
theorem u4f (a : Int) : bF [a] = 0 := Decidable.byContradiction fun h => by have := k4g h; simp at this
theorem zQ : bF [] = 0 := by decide
theorem u6o (a b c : Int) (r : List Int) : bF (a :: b :: c :: r) = 0 := Decidable.byContradiction fun h => by have := k4g h; simp at this
theorem u4e (b : Int) : bF [44, b] = 0 := Decidable.byContradiction fun h => by
  have h1 := k4m h
  rcases k77 (show 1 ≤ bF [44, b] ∧ bF [44, b] ≤ 8 by have := rS [44, b]; omega) with e | e | e | e | e | e | e | e <;> (rw [e] at h1; revert h1; simp [tJ])
theorem u4d (a : Int) : bF [a, 44] = 0 := Decidable.byContradiction fun h => by
  have h1 := k4m h
  rcases k77 (show 1 ≤ bF [a, 44] ∧ bF [a, 44] ≤ 8 by have := rS [a, 44]; omega) with e | e | e | e | e | e | e | e <;> (rw [e] at h1; revert h1; simp [tJ])
theorem k0q (r : List Int) : tH (44 :: r) = [] :: tH r := by rw [tH]; rfl
theorem k0p {x : Int} (h : ¬ x = 44) (r : List Int) : ∃ w ws, tH r = w :: ws ∧ tH (x :: r) = (x :: w) :: ws := by
  cases e : tH r with
  | nil => exact absurd e (u1q r)
  | cons w ws => exact ⟨w, ws, rfl, by rw [tH, if_neg h, e]⟩
theorem u0g : ∀ (n : Nat) (s : List Int), s.length < n → tZ (tH s) = prF n s
  | 0, s, h => absurd h (Nat.not_lt_zero _)
  | n + 1, [], _ => by
    show (if bF [] = 0 then none else _) = none
    rw [if_pos zQ]
  | n + 1, [a], _ => by
    show tZ (tH [a]) = none
    by_cases ha : a = 44
    · subst ha; rw [k0q]; show (if bF [] = 0 then none else _) = none; rw [if_pos zQ]
    · obtain ⟨w, ws, e1, e2⟩ := k0p ha []
      have e3 : w = [] := by
        have : tH [] = [[]] := rfl
        rw [this] at e1; simp at e1; exact e1.1
      rw [e2, e3]; show (if bF [a] = 0 then none else _) = none; rw [if_pos (u4f a)]
  | n + 1, a :: b :: r, h => by
    show _ = (if bF [a, b] = 0 then none else match r with
      | [] => some [bF [a, b]]
      | c :: r2 => if c = 44 then (prF n r2).map (bF [a, b] :: ·) else none)
    by_cases ha : a = 44
    · subst ha
      rw [k0q, if_pos (u4e b)]; show (if bF [] = 0 then none else _) = none; rw [if_pos zQ]
    · obtain ⟨w, ws, e1, e2⟩ := k0p ha (b :: r)
      rw [e2]
      by_cases hb : b = 44
      · subst hb
        rw [k0q] at e1
        have e3 : w = [] := by simp at e1; exact e1.1
        rw [e3, if_pos (u4d a)]; show (if bF [a] = 0 then none else _) = none; rw [if_pos (u4f a)]
      · obtain ⟨w2, ws2, e3, e4⟩ := k0p hb r
        rw [e4] at e1
        simp only [List.cons.injEq] at e1
        obtain ⟨rfl, rfl⟩ := e1
        cases r with
        | nil =>
          have e5 : tH [] = [[]] := rfl
          rw [e5] at e3
          simp only [List.cons.injEq] at e3
          obtain ⟨rfl, rfl⟩ := e3
          show (if bF [a, b] = 0 then none else some [bF [a, b]]) = _
          rfl
        | cons c r2 =>
          by_cases hc : c = 44
          · subst hc
            rw [k0q] at e3
            simp only [List.cons.injEq] at e3
            obtain ⟨rfl, rfl⟩ := e3
            show (if bF [a, b] = 0 then none else (tZ (tH r2)).map (bF [a, b] :: ·)) = _
            rw [u0g n r2 (by simp at h; omega)]
            rfl
          · obtain ⟨w3, ws3, e5, e6⟩ := k0p hc r2
            rw [e6] at e3
            simp only [List.cons.injEq] at e3
            obtain ⟨rfl, rfl⟩ := e3
            show (if bF (a :: b :: c :: w3) = 0 then none else _) = _
            rw [if_pos (u6o a b c w3)]
            show none = (if bF [a, b] = 0 then none else if c = 44 then _ else none)
            rw [if_neg hc]
            split <;> rfl
def rdP (s : List Int) : Option (List Int) := tZ (tH s)
/-! places -/
def qQ (l : List Int) (v : Int) : Nat → Int
  | 0 => -1
  | k + 1 => if 0 ≤ qQ l v k then qQ l v k else if ka1 l k 0 = v then (k : Int) else -1
theorem pN {l : List Int} {v : Int} {k : Nat} (h : qQ l v k = -1) (h2 : ¬ ka1 l k 0 = v) : qQ l v (k + 1) = -1 := by
  show (if 0 ≤ qQ l v k then _ else _) = _
  rw [if_neg (by omega), if_neg h2]
theorem fF {l : List Int} {v : Int} {k : Nat} (h : qQ l v k = -1) (h2 : ka1 l k 0 = v) : ∀ n, k < n → qQ l v n = (k : Int)
  | n + 1, hn => by
    by_cases hk : k = n
    · subst hk
      show (if 0 ≤ qQ l v k then _ else _) = _
      rw [if_neg (by omega), if_pos h2]
    · have := fF h h2 n (by omega)
      show (if 0 ≤ qQ l v n then _ else _) = _
      rw [if_pos (by omega)]; exact this
theorem vC (l : List Int) (v : Int) : ∀ n, -1 ≤ qQ l v n ∧ qQ l v n < (n : Int)
  | 0 => by show (-1 : Int) ≤ -1 ∧ (-1 : Int) < 0; omega
  | k + 1 => by
    have := vC l v k
    show -1 ≤ (if 0 ≤ qQ l v k then _ else _) ∧ (if 0 ≤ qQ l v k then _ else _) < _
    split
    · omega
    · split <;> omega
theorem k57 {l : List Int} {v : Int} : v ∈ l ↔ ∃ j, j < l.length ∧ ka1 l j 0 = v := by
  constructor
  · intro h
    obtain ⟨j, hj, e⟩ := List.mem_iff_getElem.1 h
    exact ⟨j, hj, by rw [ka7, kb1 hj]; exact e⟩
  · rintro ⟨j, hj, e⟩
    rw [ka7, kb1 hj] at e
    have e : l[j] = v := e
    rw [← e]; exact List.getElem_mem hj
/-! valid maps -/
def chE (l : List Int) (n j : Nat) : Bool := decide (1 ≤ ka1 l j 0 ∧ ka1 l j 0 ≤ 8 ∧ qQ l (ka1 l j 0) n = (j : Int))
def mS (l : List Int) (n : Nat) : Bool := decide (1 ≤ n ∧ n ≤ 8) && (List.range n).all (chE l n)
theorem fK {l : List Int} {n : Nat} (h1 : 1 ≤ n ∧ n ≤ 8) (h : ∀ j, j < n → chE l n j = true) : mS l n = true :=
  Bool.and_eq_true_iff.2 ⟨decide_eq_true h1, List.all_eq_true.2 fun j hj => h j (List.mem_range.1 hj)⟩
theorem fM {l : List Int} {n : Nat} (h1 : ¬ (1 ≤ n ∧ n ≤ 8)) : mS l n = false := by unfold mS; rw [decide_eq_false h1]; rfl
theorem fL {l : List Int} {n k : Nat} (hk : k < n) (h : chE l n k = false) : mS l n = false := by
  cases hb : mS l n with
  | false => rfl
  | true =>
    have := List.all_eq_true.1 (Bool.and_eq_true_iff.1 hb).2 k (List.mem_range.2 hk)
    rw [h] at this; cases this
/-! the code: after so many pieces -/
def PA (L : List (List Int)) (i : Nat) (m : List Int) : Prop := tZ (ka3 i L) = some m
theorem k10 : ∀ (a b : List (List Int)), tZ (a ++ b) = (tZ a).bind fun x => (tZ b).map (x ++ ·)
  | [], b => by show tZ b = (tZ b).map _; cases tZ b <;> rfl
  | w :: a, b => by
    show (if bF w = 0 then none else (tZ (a ++ b)).map (bF w :: ·)) = (if bF w = 0 then none else (tZ a).map (bF w :: ·)).bind _
    by_cases h : bF w = 0
    · rw [if_pos h, if_pos h]; rfl
    · rw [if_neg h, if_neg h, k10 a b]
      cases tZ a with
      | none => rfl
      | some x => cases tZ b <;> rfl
theorem PA.zero (L : List (List Int)) : PA L 0 [] := rfl
theorem zE {m : List (List Int)} {i : Nat} (h : i < m.length) : ka3 (i + 1) m = ka3 i m ++ [ka1 m i []] := by
  rw [kj9, kb1 h, ka7, kb1 h]; rfl
theorem PA.step {L : List (List Int)} {i : Nat} {m : List Int} {p : Int} (h : PA L i m) (hi : i < L.length) (hp : ¬ bF (ka1 L i []) = 0) (hq : p = bF (ka1 L i [])) : PA L (i + 1) (m ++ [p]) := by
  unfold PA at *
  rw [zE hi, k10, h]
  show (if _ then none else _ : Option (List Int)).map _ = _
  rw [if_neg hp, hq]; rfl
theorem PA.fin {L : List (List Int)} {i : Nat} {m : List Int} (h : PA L i m) (hi : L.length ≤ i) : tZ L = some m := by
  unfold PA at h; rw [kb7 hi] at h; exact h
/-! the reference: at a place -/
def PR (s : List Int) (a : Nat) (m : List Int) : Prop := ∀ n, s.length < n → prF n s = (prF (n - m.length) (ka4 a s)).map (m ++ ·)
theorem PR.zero (s : List Int) : PR s 0 [] := fun n h => by
  show prF n s = (prF n s).map _
  cases prF n s <;> rfl
theorem k3t {s : List Int} {a : Nat} (h : a + 2 ≤ s.length) : ka4 a s = ka1 s a 0 :: ka1 s (a + 1) 0 :: ka4 (a + 2) s := by
  rw [kd1 (by omega), kd1 (show a + 1 < s.length by omega)]
  rw [ka7, kb1 (by omega), ka7, kb1 (by omega)]; rfl
theorem k3v {s : List Int} {a : Nat} (h : a + 2 ≤ s.length) : ka3 2 (ka4 a s) = [ka1 s a 0, ka1 s (a + 1) 0] := by
  rw [k3t h]; rfl
theorem k0x {n a : Nat} {s : List Int} (h : a + 2 ≤ s.length) : prF (n + 1) (ka4 a s) = if bF (ka3 2 (ka4 a s)) = 0 then none else match ka4 (a + 2) s with
      | [] => some [bF (ka3 2 (ka4 a s))]
      | c :: r2 => if c = 44 then (prF n r2).map (bF (ka3 2 (ka4 a s)) :: ·) else none := by
  rw [k3v h, k3t h]; rfl
theorem PR.last {s : List Int} {a : Nat} {m : List Int} {p : Int} (h : PR s a m) (hm : 3 * m.length = a) (h2 : s.length = a + 2) (hp : ¬ bF (ka3 2 (ka4 a s)) = 0) (hq : p = bF (ka3 2 (ka4 a s))) : rdP s = some (m ++ [p]) := by
  unfold rdP
  rw [u0g _ _ (Nat.lt_succ_self _), h _ (Nat.lt_succ_self _)]
  obtain ⟨n, hn⟩ : ∃ n, s.length + 1 - m.length = n + 1 := ⟨s.length - m.length, by omega⟩
  rw [hn, k0x (by omega), if_neg hp, List.drop_eq_nil_of_le (by omega), hq]; rfl
theorem PR.step {s : List Int} {a : Nat} {m : List Int} {p : Int} (h : PR s a m) (hm : 3 * m.length = a) (h2 : a + 2 < s.length) (hc : ka1 s (a + 2) 0 = 44) (hp : ¬ bF (ka3 2 (ka4 a s)) = 0) (hq : p = bF (ka3 2 (ka4 a s))) : PR s (a + 3) (m ++ [p]) := fun n hn => by
  rw [h n hn]
  obtain ⟨k, hk⟩ : ∃ k, n - m.length = k + 1 := ⟨n - m.length - 1, by omega⟩
  rw [hk, k0x (by omega), if_neg hp, kd1 h2]
  rw [ka7, kb1 h2] at hc
  have hc : s[a + 2] = 44 := hc
  show (if _ then _ else none : Option (List Int)).map _ = _
  rw [if_pos hc, hq, List.length_append, show n - (m.length + [bF (ka3 2 (ka4 a s))].length) = k by simp only [List.length_cons, List.length_nil]; omega, show a + 2 + 1 = a + 3 by omega]
  cases prF k (ka4 (a + 3) s) with
  | none => rfl
  | some x =>
    show some (m ++ (bF (ka3 2 (ka4 a s)) :: x)) = some (m ++ [bF (ka3 2 (ka4 a s))] ++ x)
    rw [kc9]; rfl
end Go.Proofs.YtcfmjpnffembpaaGreat
