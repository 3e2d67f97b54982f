/- Names of positions, texts of maps. No statement is proved here. -/
import Derived.Test.YtdbjebdomdnbkaaZLBy
namespace Go.Proofs.Ytdbjebdomdnbkaa
open Go.ChangeShapes Go.WideShapes Go.ChangeAt Go.RowKit
open List renaming append_assoc → kb8, append_nil → kd0, drop → ka7, drop_eq_getElem_cons → kg7, getD → ka0, getD_eq_getElem?_getD → ka8, getElem?_eq_getElem → ka9, take → ka2, take_add_one → kh3, take_of_length_le → kc4
set_option linter.unusedVariables false
set_option linter.unusedSimpArgs false
def stD (xs : List (List Int)) : List D := xs.map fun l => D.lit (.string (strOfNums l))
theorem k7d (xs : List (List Int)) : (stD xs).length = xs.length := by unfold stD; simp
/-! names of positions, texts of maps -/
def aM (l : List Int) : Int :=
  if l = [70, 76] then 1 else if l = [70, 82] then 2 else if l = [70, 67] then 3 else if l = [76, 70] then 4 else if l = [66, 76] then 5 else if l = [66, 82] then 6 else if l = [83, 76] then 7 else if l = [83, 82] then 8 else 0
def sS (p : Int) : List Int :=
  if p = 1 then [70, 76] else if p = 2 then [70, 82] else if p = 3 then [70, 67] else if p = 4 then [76, 70] else if p = 5 then [66, 76] else if p = 6 then [66, 82] else if p = 7 then [83, 76] else if p = 8 then [83, 82] else [63]
theorem pS (l : List Int) : 0 ≤ aM l ∧ aM l ≤ 8 := by
  unfold aM; (repeat' split) <;> omega
theorem k68 {p : Int} (h : 1 ≤ p ∧ p ≤ 8) : p = 1 ∨ p = 2 ∨ p = 3 ∨ p = 4 ∨ p = 5 ∨ p = 6 ∨ p = 7 ∨ p = 8 := by omega
theorem k3c {l : List Int} (h : ¬ aM l = 0) : sS (aM l) = l := by
  by_cases h1 : l = [70, 76]
  · subst h1; decide
  by_cases h2 : l = [70, 82]
  · subst h2; decide
  by_cases h3 : l = [70, 67]
  · subst h3; decide
  by_cases h4 : l = [76, 70]
  · subst h4; decide
  by_cases h5 : l = [66, 76]
  · subst h5; decide
  by_cases h6 : l = [66, 82]
  · subst h6; decide
  by_cases h7 : l = [83, 76]
  · subst h7; decide
  by_cases h8 : l = [83, 82]
  · subst h8; decide
  exact absurd (by unfold aM; rw [if_neg h1, if_neg h2, if_neg h3, if_neg h4, if_neg h5, if_neg h6, if_neg h7, if_neg h8]) h
theorem k3d {p : Int} (h : 1 ≤ p ∧ p ≤ 8) : (sS p).length = 2 := by
  rcases k68 h with rfl | rfl | rfl | rfl | rfl | rfl | rfl | rfl <;> rfl
theorem k3b {l : List Int} (h : ¬ aM l = 0) : l.length = 2 := by
  have h1 := k3c h
  rw [← h1]; exact k3d (by have := pS l; omega)
def fmT : List Int → List Int
  | [] => []
  | p :: r => [44] ++ sS p ++ fmT r
def fmL : List Int → List Int
  | [] => []
  | p :: r => sS p ++ fmT r
theorem k0n : ∀ a b : List Int, fmT (a ++ b) = fmT a ++ fmT b
  | [], b => rfl
  | p :: r, b => by show [44] ++ sS p ++ fmT (r ++ b) = [44] ++ sS p ++ fmT r ++ fmT b; rw [k0n r b, kb8 ([44] ++ sS p)]
theorem k4h {a : List Int} {p : Int} (h : 1 ≤ a.length) : fmL (a ++ [p]) = fmL a ++ [44] ++ sS p := by
  cases a with
  | nil => exact absurd h (by decide)
  | cons x r =>
    show sS x ++ fmT (r ++ [p]) = sS x ++ fmT r ++ [44] ++ sS p
    rw [k0n]
    show sS x ++ (fmT r ++ ([44] ++ sS p ++ [])) = _
    simp only [kd0, kb8]
theorem cL {m : List Int} {i : Nat} (h : i < m.length) : ka2 (i + 1) m = ka2 i m ++ [ka0 m i 0] := by
  rw [kh3, ka9 h, ka8, ka9 h]; rfl
def FB (m : List Int) (i : Nat) (b : List Int) : Prop := b = fmL (ka2 i m)
theorem FB.zero (m : List Int) : FB m 0 [] := rfl
theorem FB.one {m b : List Int} (h : 0 < m.length) (hb : b = sS (ka0 m 0 0)) : FB m (0 + 1) b := by
  unfold FB; rw [cL h, hb]; show _ = sS _ ++ []; rw [kd0]
theorem FB.step {m b c q : List Int} {i : Nat} (h : FB m i b) (h1 : 1 ≤ i) (hi : i < m.length) (hq : q = sS (ka0 m i 0)) (hc : c = b ++ [44] ++ q) : FB m (i + 1) c := by
  unfold FB at *
  rw [cL hi, k4h (by rw [List.length_take]; omega), ← h, ← hq, hc]
theorem FB.fin {m b : List Int} {i : Nat} (h : FB m i b) (hi : m.length ≤ i) : b = fmL m := by
  unfold FB at h; rw [kc4 hi] at h; exact h
theorem FB.z {m b : List Int} {i : Nat} (h : FB m i b) (h0 : i = 0) : b = [] := by subst h0; exact h
/-! a text in parts -/
def sR : List Int → List (List Int)
  | [] => [[]]
  | x :: r => if x = 44 then [] :: sR r else match sR r with
    | [] => [[x]]
    | w :: ws => (x :: w) :: ws
theorem u1e : ∀ l, sR l ≠ []
  | [] => by simp [sR]
  | x :: r => by
    unfold sR
    split
    · simp
    · split <;> simp
def prF : Nat → List Int → Option (List Int)
  | 0, _ => none
  | n + 1, s => match s with
    | a :: b :: r => if aM [a, b] = 0 then none else match r with
      | [] => some [aM [a, b]]
      | c :: r2 => if c = 44 then (prF n r2).map (aM [a, b] :: ·) else none
    | _ => none
def tG : List (List Int) → Option (List Int)
  | [] => some []
  | w :: ws => if aM w = 0 then none else (tG ws).map (aM w :: ·)
theorem u59 (a : Int) : aM [a] = 0 := Decidable.byContradiction fun h => by have := k3b h; simp at this
theorem xD : aM [] = 0 := by decide
theorem u7m (a b c : Int) (r : List Int) : aM (a :: b :: c :: r) = 0 := Decidable.byContradiction fun h => by have := k3b h; simp at this
theorem u58 (b : Int) : aM [44, b] = 0 := Decidable.byContradiction fun h => by
  have h1 := k3c h
  rcases k68 (show 1 ≤ aM [44, b] ∧ aM [44, b] ≤ 8 by have := pS [44, b]; omega) with e | e | e | e | e | e | e | e <;> (rw [e] at h1; revert h1; simp [sS])
theorem u57 (a : Int) : aM [a, 44] = 0 := Decidable.byContradiction fun h => by
  have h1 := k3c h
  rcases k68 (show 1 ≤ aM [a, 44] ∧ aM [a, 44] ≤ 8 by have := pS [a, 44]; omega) with e | e | e | e | e | e | e | e <;> (rw [e] at h1; revert h1; simp [sS])
theorem z6 (r : List Int) : sR (44 :: r) = [] :: sR r := by rw [sR]; rfl
theorem z5 {x : Int} (h : ¬ x = 44) (r : List Int) : ∃ w ws, sR r = w :: ws ∧ sR (x :: r) = (x :: w) :: ws := by
  cases e : sR r with
  | nil => exact absurd e (u1e r)
  | cons w ws => exact ⟨w, ws, rfl, by rw [sR, if_neg h, e]⟩
theorem u00 : ∀ (n : Nat) (s : List Int), s.length < n → tG (sR s) = prF n s
  | 0, s, h => absurd h (Nat.not_lt_zero _)
  | n + 1, [], _ => by
    show (if aM [] = 0 then none else _) = none
    rw [if_pos xD]
  | n + 1, [a], _ => by
    show tG (sR [a]) = none
    by_cases ha : a = 44
    · subst ha; rw [z6]; show (if aM [] = 0 then none else _) = none; rw [if_pos xD]
    · obtain ⟨w, ws, e1, e2⟩ := z5 ha []
      have e3 : w = [] := by
        have : sR [] = [[]] := rfl
        rw [this] at e1; simp at e1; exact e1.1
      rw [e2, e3]; show (if aM [a] = 0 then none else _) = none; rw [if_pos (u59 a)]
  | n + 1, a :: b :: r, h => by
    show _ = (if aM [a, b] = 0 then none else match r with
      | [] => some [aM [a, b]]
      | c :: r2 => if c = 44 then (prF n r2).map (aM [a, b] :: ·) else none)
    by_cases ha : a = 44
    · subst ha
      rw [z6, if_pos (u58 b)]; show (if aM [] = 0 then none else _) = none; rw [if_pos xD]
    · obtain ⟨w, ws, e1, e2⟩ := z5 ha (b :: r)
      rw [e2]
      by_cases hb : b = 44
      · subst hb
        rw [z6] at e1
        have e3 : w = [] := by simp at e1; exact e1.1
        rw [e3, if_pos (u57 a)]; show (if aM [a] = 0 then none else _) = none; rw [if_pos (u59 a)]
      · obtain ⟨w2, ws2, e3, e4⟩ := z5 hb r
        rw [e4] at e1
        simp only [List.cons.injEq] at e1
        obtain ⟨rfl, rfl⟩ := e1
        cases r with
        | nil =>
          have e5 : sR [] = [[]] := rfl
          rw [e5] at e3
          simp only [List.cons.injEq] at e3
          obtain ⟨rfl, rfl⟩ := e3
          show (if aM [a, b] = 0 then none else some [aM [a, b]]) = _
          rfl
        | cons c r2 =>
          by_cases hc : c = 44
          · subst hc
            rw [z6] at e3
            simp only [List.cons.injEq] at e3
            obtain ⟨rfl, rfl⟩ := e3
            show (if aM [a, b] = 0 then none else (tG (sR r2)).map (aM [a, b] :: ·)) = _
            rw [u00 n r2 (by simp at h; omega)]
            rfl
          · obtain ⟨w3, ws3, e5, e6⟩ := z5 hc r2
            rw [e6] at e3
            simp only [List.cons.injEq] at e3
            obtain ⟨rfl, rfl⟩ := e3
            show (if aM (a :: b :: c :: w3) = 0 then none else _) = _
            rw [if_pos (u7m a b c w3)]
            show none = (if aM [a, b] = 0 then none else if c = 44 then _ else none)
            rw [if_neg hc]
            split <;> rfl
def rdP (s : List Int) : Option (List Int) := tG (sR s)
/-! places -/
def uB (l : List Int) (v : Int) : Nat → Int
  | 0 => -1
  | k + 1 => if 0 ≤ uB l v k then uB l v k else if ka0 l k 0 = v then (k : Int) else -1
theorem iT {l : List Int} {v : Int} {k : Nat} (h : uB l v k = -1) (h2 : ¬ ka0 l k 0 = v) : uB l v (k + 1) = -1 := by
  show (if 0 ≤ uB l v k then _ else _) = _
  rw [if_neg (by omega), if_neg h2]
theorem cT {l : List Int} {v : Int} {k : Nat} (h : uB l v k = -1) (h2 : ka0 l k 0 = v) : ∀ n, k < n → uB l v n = (k : Int)
  | n + 1, hn => by
    by_cases hk : k = n
    · subst hk
      show (if 0 ≤ uB l v k then _ else _) = _
      rw [if_neg (by omega), if_pos h2]
    · have := cT h h2 n (by omega)
      show (if 0 ≤ uB l v n then _ else _) = _
      rw [if_pos (by omega)]; exact this
theorem cS (l : List Int) (v : Int) : ∀ n, -1 ≤ uB l v n ∧ uB l v n < (n : Int)
  | 0 => by show (-1 : Int) ≤ -1 ∧ (-1 : Int) < 0; omega
  | k + 1 => by
    have := cS l v k
    show -1 ≤ (if 0 ≤ uB l v k then _ else _) ∧ (if 0 ≤ uB l v k then _ else _) < _
    split
    · omega
    · split <;> omega
theorem oG (l : List Int) (v : Int) : ∀ n, (uB l v n = -1 ∧ ∀ j, j < n → ¬ ka0 l j 0 = v) ∨ ∃ k, k < n ∧ uB l v n = (k : Int) ∧ ka0 l k 0 = v ∧ ∀ j, j < k → ¬ ka0 l j 0 = v
  | 0 => .inl ⟨rfl, fun j hj => absurd hj (Nat.not_lt_zero j)⟩
  | n + 1 => by
    rcases oG l v n with ⟨h, h2⟩ | ⟨k, h1, h2, h3, h4⟩
    · by_cases h9 : ka0 l n 0 = v
      · exact .inr ⟨n, by omega, cT h h9 _ (by omega), h9, h2⟩
      · exact .inl ⟨iT h h9, fun j hj => (Nat.lt_succ_iff_lt_or_eq.1 hj).elim (h2 j) (fun e => by subst e; exact h9)⟩
    · refine .inr ⟨k, by omega, ?_, h3, h4⟩
      show (if 0 ≤ uB l v n then _ else _) = _
      rw [if_pos (by omega)]; exact h2
theorem rC {l : List Int} {v : Int} : v ∈ l ↔ ∃ j, j < l.length ∧ ka0 l j 0 = v := by
  constructor
  · intro h
    obtain ⟨j, hj, e⟩ := List.mem_iff_getElem.1 h
    exact ⟨j, hj, by rw [ka8, ka9 hj]; exact e⟩
  · rintro ⟨j, hj, e⟩
    rw [ka8, ka9 hj] at e
    have e : l[j] = v := e
    rw [← e]; exact List.getElem_mem hj
/-! valid maps -/
def chE (l : List Int) (n j : Nat) : Bool := decide (1 ≤ ka0 l j 0 ∧ ka0 l j 0 ≤ 8 ∧ uB l (ka0 l j 0) n = (j : Int))
def f9 (l : List Int) (n : Nat) : Bool := decide (1 ≤ n ∧ n ≤ 8) && (List.range n).all (chE l n)
theorem dU {l : List Int} {n : Nat} (h1 : 1 ≤ n ∧ n ≤ 8) (h : ∀ j, j < n → chE l n j = true) : f9 l n = true :=
  Bool.and_eq_true_iff.2 ⟨decide_eq_true h1, List.all_eq_true.2 fun j hj => h j (List.mem_range.1 hj)⟩
theorem eO {l : List Int} {n : Nat} (h1 : ¬ (1 ≤ n ∧ n ≤ 8)) : f9 l n = false := by unfold f9; rw [decide_eq_false h1]; rfl
theorem eN {l : List Int} {n k : Nat} (hk : k < n) (h : chE l n k = false) : f9 l n = false := by
  cases hb : f9 l n with
  | false => rfl
  | true =>
    have := List.all_eq_true.1 (Bool.and_eq_true_iff.1 hb).2 k (List.mem_range.2 hk)
    rw [h] at this; cases this
theorem u0k {l : List Int} {n : Nat} (h : f9 l n = true) : 1 ≤ n ∧ n ≤ 8 := of_decide_eq_true (Bool.and_eq_true_iff.1 h).1
theorem sC {l : List Int} {n j : Nat} (h : f9 l n = true) (hj : j < n) : 1 ≤ ka0 l j 0 ∧ ka0 l j 0 ≤ 8 ∧ uB l (ka0 l j 0) n = (j : Int) := of_decide_eq_true (List.all_eq_true.1 (Bool.and_eq_true_iff.1 h).2 j (List.mem_range.2 hj))
theorem tN {l : List Int} : l.Nodup ↔ ∀ i j, i < j → j < l.length → ¬ ka0 l i 0 = ka0 l j 0 := by
  rw [List.nodup_iff_pairwise_ne, List.pairwise_iff_getElem]
  constructor
  · intro h i j hij hj e
    rw [ka8, ka9 (by omega), ka8, ka9 hj] at e
    exact h i j (by omega) hj hij e
  · intro h i j hi hj hij e
    refine h i j hij hj ?_
    rw [ka8, ka9 hi, ka8, ka9 hj]
    exact e
theorem k94 {l : List Int} {n : Nat} (hn : l.length = n) : f9 l n = true ↔ (1 ≤ n ∧ n ≤ 8) ∧ (∀ x ∈ l, 1 ≤ x ∧ x ≤ 8) ∧ l.Nodup := by
  subst hn
  constructor
  · intro h
    refine ⟨u0k h, fun x hx => ?_, tN.2 fun i j hij hj e => ?_⟩
    · obtain ⟨j, hj, rfl⟩ := rC.1 hx
      have := sC h hj; omega
    · have h1 := (sC h (show i < l.length by omega)).2.2
      have h2 := (sC h hj).2.2
      rw [e] at h1; omega
  · rintro ⟨h1, h2, h3⟩
    refine dU h1 fun j hj => decide_eq_true ?_
    have hx := h2 _ (rC.2 ⟨j, hj, rfl⟩)
    refine ⟨hx.1, hx.2, ?_⟩
    rcases oG l (ka0 l j 0) l.length with ⟨_, h⟩ | ⟨k, k1, k2, k3, k4⟩
    · exact absurd rfl (h j hj)
    · rw [k2]
      rcases Nat.lt_trichotomy k j with h | h | h
      · exact absurd k3 (tN.1 h3 k j h hj)
      · rw [h]
      · exact absurd rfl (k4 j h)
/-! the code: after so many pieces -/
def PA (L : List (List Int)) (i : Nat) (m : List Int) : Prop := tG (ka2 i L) = some m
theorem k04 : ∀ (a b : List (List Int)), tG (a ++ b) = (tG a).bind fun x => (tG b).map (x ++ ·)
  | [], b => by show tG b = (tG b).map _; cases tG b <;> rfl
  | w :: a, b => by
    show (if aM w = 0 then none else (tG (a ++ b)).map (aM w :: ·)) = (if aM w = 0 then none else (tG a).map (aM w :: ·)).bind _
    by_cases h : aM w = 0
    · rw [if_pos h, if_pos h]; rfl
    · rw [if_neg h, if_neg h, k04 a b]
      cases tG a with
      | none => rfl
      | some x => cases tG b <;> rfl
theorem PA.zero (L : List (List Int)) : PA L 0 [] := rfl
theorem w5 {m : List (List Int)} {i : Nat} (h : i < m.length) : ka2 (i + 1) m = ka2 i m ++ [ka0 m i []] := by
  rw [kh3, ka9 h, ka8, ka9 h]; rfl
theorem PA.step {L : List (List Int)} {i : Nat} {m : List Int} {p : Int} (h : PA L i m) (hi : i < L.length) (hp : ¬ aM (ka0 L i []) = 0) (hq : p = aM (ka0 L i [])) : PA L (i + 1) (m ++ [p]) := by
  unfold PA at *
  rw [w5 hi, k04, h]
  show (if _ then none else _ : Option (List Int)).map _ = _
  rw [if_neg hp, hq]; rfl
theorem PA.fin {L : List (List Int)} {i : Nat} {m : List Int} (h : PA L i m) (hi : L.length ≤ i) : tG L = some m := by
  unfold PA at h; rw [kc4 hi] at h; exact h
/-! the reference: at a place -/
def PR (s : List Int) (a : Nat) (m : List Int) : Prop := ∀ n, s.length < n → prF n s = (prF (n - m.length) (ka7 a s)).map (m ++ ·)
theorem PR.zero (s : List Int) : PR s 0 [] := fun n h => by
  show prF n s = (prF n s).map _
  cases prF n s <;> rfl
theorem k2r {s : List Int} {a : Nat} (h : a + 2 ≤ s.length) : ka7 a s = ka0 s a 0 :: ka0 s (a + 1) 0 :: ka7 (a + 2) s := by
  rw [kg7 (by omega), kg7 (show a + 1 < s.length by omega)]
  rw [ka8, ka9 (by omega), ka8, ka9 (by omega)]; rfl
theorem k2t {s : List Int} {a : Nat} (h : a + 2 ≤ s.length) : ka2 2 (ka7 a s) = [ka0 s a 0, ka0 s (a + 1) 0] := by
  rw [k2r h]; rfl
theorem k02 {n a : Nat} {s : List Int} (h : a + 2 ≤ s.length) : prF (n + 1) (ka7 a s) = if aM (ka2 2 (ka7 a s)) = 0 then none else match ka7 (a + 2) s with
      | [] => some [aM (ka2 2 (ka7 a s))]
      | c :: r2 => if c = 44 then (prF n r2).map (aM (ka2 2 (ka7 a s)) :: ·) else none := by
  rw [k2t h, k2r h]; rfl
theorem PR.last {s : List Int} {a : Nat} {m : List Int} {p : Int} (h : PR s a m) (hm : 3 * m.length = a) (h2 : s.length = a + 2) (hp : ¬ aM (ka2 2 (ka7 a s)) = 0) (hq : p = aM (ka2 2 (ka7 a s))) : rdP s = some (m ++ [p]) := by
  unfold rdP
  rw [u00 _ _ (Nat.lt_succ_self _), h _ (Nat.lt_succ_self _)]
  obtain ⟨n, hn⟩ : ∃ n, s.length + 1 - m.length = n + 1 := ⟨s.length - m.length, by omega⟩
  rw [hn, k02 (by omega), if_neg hp, List.drop_eq_nil_of_le (by omega), hq]; rfl
theorem PR.step {s : List Int} {a : Nat} {m : List Int} {p : Int} (h : PR s a m) (hm : 3 * m.length = a) (h2 : a + 2 < s.length) (hc : ka0 s (a + 2) 0 = 44) (hp : ¬ aM (ka2 2 (ka7 a s)) = 0) (hq : p = aM (ka2 2 (ka7 a s))) : PR s (a + 3) (m ++ [p]) := fun n hn => by
  rw [h n hn]
  obtain ⟨k, hk⟩ : ∃ k, n - m.length = k + 1 := ⟨n - m.length - 1, by omega⟩
  rw [hk, k02 (by omega), if_neg hp, kg7 h2]
  rw [ka8, ka9 h2] at hc
  have hc : s[a + 2] = 44 := hc
  show (if _ then _ else none : Option (List Int)).map _ = _
  rw [if_pos hc, hq, List.length_append, show n - (m.length + [aM (ka2 2 (ka7 a s))].length) = k by simp only [List.length_cons, List.length_nil]; omega, show a + 2 + 1 = a + 3 by omega]
  cases prF k (ka7 (a + 3) s) with
  | none => rfl
  | some x =>
    show some (m ++ (aM (ka2 2 (ka7 a s)) :: x)) = some (m ++ [aM (ka2 2 (ka7 a s))] ++ x)
    rw [kb8]; rfl
end Go.Proofs.Ytdbjebdomdnbkaa
