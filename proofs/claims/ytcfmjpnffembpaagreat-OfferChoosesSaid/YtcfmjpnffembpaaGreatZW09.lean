/- Sets of integers. No statement is proved here. -/
import Derived.Test.YtcfmjpnffembpaaGreatZLBy
namespace Go.Proofs.YtcfmjpnffembpaaGreat
open Go.ChangeShapes Go.WideShapes Go.ChangeAt Go.RowKit
open Bool renaming false_ne_true → kh5
open Int renaming le_refl → ke2
open List renaming any_append → kk6, append_assoc → kc9, append_nil → kd6, drop → ka4, drop_of_length_le → kj0, eq_nil_of_length_eq_zero → kd2, flatMap_append → kj3, getD → ka1, getElem?_drop → ke0, getElem?_eq_getElem → kb1, length_append → ka6, length_cons → ka8, length_drop → kb0, length_nil → kb3, length_reverse → kc1, length_take → ka9, mem_cons_of_mem → kb9, mem_cons_self → kb5, mem_of_getElem? → kd5, mem_of_mem_take → kg6, reverse_cons → kf3, take → ka3, take_append_drop → kf9, take_left' → kk5, take_of_length_le → kb7
open Nat renaming eq_zero_or_pos → kk1, le_refl → kc7, lt_or_ge → ki0, zero_le → kd8
set_option linter.unusedVariables false
set_option linter.unusedSimpArgs false
/-! sets of integers: spans as pairs -/
abbrev Sp := Int × Int
def nH (p : Sp) : Prop := 0 ≤ p.1 ∧ p.1 ≤ p.2 ∧ p.2 ≤ 2147483647
def iA : List Sp → Prop
  | [] => True
  | p :: r => nH p ∧ (∀ q ∈ r, p.2 + 1 < q.1) ∧ iA r
def gL (ps : List Sp) (x : Int) : Prop := ∃ p ∈ ps, p.1 ≤ x ∧ x ≤ p.2
theorem mQ (x : Int) : ¬ gL [] x := fun ⟨p, h, _⟩ => by cases h
theorem u4 {p : Sp} {r : List Sp} {x : Int} : gL (p :: r) x ↔ (p.1 ≤ x ∧ x ≤ p.2) ∨ gL r x := by
  constructor
  · rintro ⟨q, hq, h⟩
    rcases List.mem_cons.1 hq with rfl | hq
    · exact .inl h
    · exact .inr ⟨q, hq, h⟩
  · rintro (h | ⟨q, hq, h⟩)
    · exact ⟨p, kb5 .., h⟩
    · exact ⟨q, kb9 _ hq, h⟩
theorem k17 : ∀ {ps : List Sp}, iA ps → ∀ p ∈ ps, nH p
  | [], _, p, hp => by cases hp
  | q :: r, h, p, hp => by
    rcases List.mem_cons.1 hp with rfl | hp
    · exact h.1
    · exact k17 h.2.2 p hp
theorem lK {p : Sp} {r : List Sp} (h : ∀ q ∈ r, p.2 + 1 < q.1) {x : Int} (hx : gL r x) : p.2 + 1 < x := by
  obtain ⟨q, hq, h1, _⟩ := hx
  have := h q hq; omega
theorem k4y : ∀ {a b : List Sp}, iA a → iA b → (∀ x, gL a x ↔ gL b x) → a = b
  | [], [], _, _, _ => rfl
  | [], q :: r, _, hb, h => absurd ((h q.1).2 (u4.2 (.inl ⟨ke2 _, hb.1.2.1⟩))) (mQ _)
  | p :: r, [], ha, _, h => absurd ((h p.1).1 (u4.2 (.inl ⟨ke2 _, ha.1.2.1⟩))) (mQ _)
  | p :: r, q :: s, ha, hb, h => by
    have m1 : gL (p :: r) p.1 := u4.2 (.inl ⟨ke2 _, ha.1.2.1⟩)
    have m2 : gL (q :: s) q.1 := u4.2 (.inl ⟨ke2 _, hb.1.2.1⟩)
    have v1 := ha.1; have v2 := hb.1
    unfold nH at v1 v2
    have e1 : p.1 = q.1 := by
      have n1 := u4.1 ((h _).1 m1)
      have n2 := u4.1 ((h _).2 m2)
      have g1 : gL s p.1 → q.2 + 1 < p.1 := lK hb.2.1
      have g2 : gL r q.1 → p.2 + 1 < q.1 := lK ha.2.1
      rcases n1 with n1 | n1
      · rcases n2 with n2 | n2
        · omega
        · have := g2 n2; omega
      · have := g1 n1
        rcases n2 with n2 | n2
        · omega
        · have := g2 n2; omega
    have no1 : ¬ gL (p :: r) (p.2 + 1) := fun hh => by
      rcases u4.1 hh with hh | hh
      · omega
      · have := lK ha.2.1 hh; omega
    have no2 : ¬ gL (q :: s) (q.2 + 1) := fun hh => by
      rcases u4.1 hh with hh | hh
      · omega
      · have := lK hb.2.1 hh; omega
    have e2 : p.2 = q.2 := by
      rcases Int.lt_trichotomy p.2 q.2 with hlt | heq | hgt
      · exact absurd ((h (p.2 + 1)).2 (u4.2 (.inl ⟨by omega, by omega⟩))) no1
      · exact heq
      · exact absurd ((h (q.2 + 1)).1 (u4.2 (.inl ⟨by omega, by omega⟩))) no2
    obtain ⟨a, b⟩ := p
    obtain ⟨c, d⟩ := q
    obtain rfl : a = c := e1
    obtain rfl : b = d := e2
    congr 1
    refine k4y ha.2.2 hb.2.2 fun x => ?_
    have hx := h x
    rw [u4, u4] at hx
    constructor
    · intro hr
      have := lK ha.2.1 hr
      rcases hx.1 (.inr hr) with h9 | h9
      · exfalso; simp only at this h9; omega
      · exact h9
    · intro hr
      have := lK hb.2.1 hr
      rcases hx.2 (.inr hr) with h9 | h9
      · exfalso; simp only at this h9; omega
      · exact h9
/-! spans that are joined: the last span first -/
def lJ (o : List Sp) (x : Sp) : List Sp := match o with
  | [] => [x]
  | l :: r => if x.1 ≤ l.2 + 1 then (l.1, max l.2 x.2) :: r else x :: l :: r
def okR : List Sp → Prop
  | [] => True
  | p :: r => nH p ∧ (∀ q ∈ r, q.2 + 1 < p.1) ∧ okR r
theorem k16 : ∀ {o : List Sp} {r : List Sp}, okR o → iA r → (∀ p ∈ o, ∀ q ∈ r, p.2 + 1 < q.1) → iA (o.reverse ++ r)
  | [], r, _, h, _ => h
  | p :: o, r, ho, hr, h => by
    rw [kf3, kc9]
    refine k16 ho.2.2 ⟨ho.1, fun q hq => h p (kb5 ..) q hq, hr⟩ fun a ha b hb => ?_
    rcases List.mem_cons.1 hb with rfl | hb
    · exact ho.2.1 a ha
    · exact h a (kb9 _ ha) b hb
theorem u27 (o : List Sp) (x : Sp) : (lJ o x).length ≤ o.length + 1 := by
  unfold lJ
  cases o with
  | nil => exact kc7 _
  | cons l r => show (if _ then _ else _ : List Sp).length ≤ _; split <;> simp
theorem u4u {o : List Sp} {x : Sp} (h : okR o) (hx : nH x) (hl : ∀ l r, o = l :: r → l.1 ≤ x.1) : okR (lJ o x) := by
  cases o with
  | nil => exact ⟨hx, fun q hq => (by cases hq), trivial⟩
  | cons l r =>
    have h1 := hl l r rfl
    have hv := h.1
    unfold nH at hv hx
    show okR (if _ then _ else _)
    split
    · refine ⟨⟨hv.1, ?_, ?_⟩, h.2.1, h.2.2⟩
      · show l.1 ≤ max l.2 x.2; omega
      · show max l.2 x.2 ≤ _; omega
    · refine ⟨hx, fun q hq => ?_, h⟩
      rcases List.mem_cons.1 hq with rfl | hq
      · omega
      · have := h.2.1 q hq; omega
theorem u4v {o : List Sp} {x : Sp} (h : okR o) (hx : nH x) (hl : ∀ l r, o = l :: r → l.1 ≤ x.1) (z : Int) : gL (lJ o x) z ↔ gL o z ∨ (x.1 ≤ z ∧ z ≤ x.2) := by
  cases o with
  | nil => show gL [x] z ↔ _; rw [u4]; exact or_comm
  | cons l r =>
    have h1 := hl l r rfl
    have hv := h.1
    unfold nH at hv hx
    show gL (if _ then _ else _) z ↔ _
    split
    · rw [u4, u4]
      show (l.1 ≤ z ∧ z ≤ max l.2 x.2) ∨ _ ↔ _
      constructor
      · rintro (h9 | h9)
        · by_cases h8 : z ≤ l.2
          · exact .inl (.inl ⟨h9.1, h8⟩)
          · exact .inr ⟨by omega, by omega⟩
        · exact .inl (.inr h9)
      · rintro ((h9 | h9) | h9)
        · exact .inl ⟨h9.1, by omega⟩
        · exact .inr h9
        · exact .inl ⟨by omega, by omega⟩
    · rw [u4]; exact or_comm
theorem k8n {o : List Sp} {x : Sp} (hl : ∀ l r, o = l :: r → l.1 ≤ x.1) : ∀ l r, lJ o x = l :: r → l.1 ≤ x.1 := by
  intro l r e
  cases o with
  | nil => have e : [x] = l :: r := e; cases e; exact ke2 _
  | cons a s =>
    have h1 := hl a s rfl
    have e : (if x.1 ≤ a.2 + 1 then (a.1, max a.2 x.2) :: s else x :: a :: s) = l :: r := e
    split at e
    · cases e; exact h1
    · cases e; exact ke2 _
def jnR (s : List Sp) : List Sp := s.foldl lJ []
def srP (s : List Sp) : Prop := s.Pairwise fun a b => a.1 ≤ b.1
theorem k5g : ∀ (s o : List Sp), okR o → (∀ p ∈ s, nH p) → srP s → (∀ l r, o = l :: r → ∀ p ∈ s, l.1 ≤ p.1) → okR (s.foldl lJ o) ∧ (∀ z, gL (s.foldl lJ o) z ↔ gL o z ∨ gL s z) ∧ (s.foldl lJ o).length ≤ o.length + s.length
  | [], o, h, _, _, _ => ⟨h, fun z => ⟨.inl, fun h => h.elim id fun h => absurd h (mQ _)⟩, kc7 _⟩
  | x :: s, o, h, hv, hs, hl => by
    have hx := hv x (kb5 ..)
    have hl1 : ∀ l r, o = l :: r → l.1 ≤ x.1 := fun l r e => hl l r e x (kb5 ..)
    obtain ⟨h1, h2⟩ := List.pairwise_cons.1 hs
    obtain ⟨i1, i2, i3⟩ := k5g s (lJ o x) (u4u h hx hl1) (fun p hp => hv p (kb9 _ hp)) h2 (fun l r e p hp => by have := k8n hl1 l r e; have := h1 p hp; omega)
    refine ⟨i1, fun z => ?_, ?_⟩
    · show gL (s.foldl lJ (lJ o x)) z ↔ _
      rw [i2 z, u4v h hx hl1 z, u4, or_assoc]
    · show (s.foldl lJ (lJ o x)).length ≤ _
      have := u27 o x
      simp only [ka8]; omega
def jnP (s : List Sp) : List Sp := (jnR s).reverse
theorem k5f {s : List Sp} (hv : ∀ p ∈ s, nH p) (hs : srP s) : iA (jnP s) ∧ (∀ z, gL (jnP s) z ↔ gL s z) ∧ (jnP s).length ≤ s.length := by
  obtain ⟨h1, h2, h3⟩ := k5g s [] trivial hv hs (fun l r e => by cases e)
  refine ⟨?_, fun z => ?_, ?_⟩
  · have := k16 (r := []) h1 trivial (fun _ _ q hq => by cases hq)
    rw [kd6] at this; exact this
  · have e : gL (jnP s) z ↔ gL (jnR s) z := by
      unfold gL jnP
      simp only [List.mem_reverse]
    rw [e]
    have := h2 z
    rw [show s.foldl lJ [] = jnR s from rfl] at this
    rw [this]
    exact ⟨fun h => h.elim (fun h => absurd h (mQ _)) id, .inr⟩
  · unfold jnP jnR; rw [kc1]
    have : (s.foldl lJ []).length ≤ ([] : List Sp).length + s.length := h3
    rw [kb3, Nat.zero_add] at this; exact this
theorem wA {a b : List Sp} (h : a.Perm b) (z : Int) : gL a z ↔ gL b z := by
  unfold gL
  constructor
  · rintro ⟨p, hp, h9⟩; exact ⟨p, h.mem_iff.1 hp, h9⟩
  · rintro ⟨p, hp, h9⟩; exact ⟨p, h.mem_iff.2 hp, h9⟩
theorem k8v {a b : List Sp} (h : a.Perm b) (hv : ∀ p ∈ a, nH p) (ha : srP a) (hb : srP b) : jnP a = jnP b := by
  have h1 := k5f hv ha
  have h2 := k5f (s := b) (fun p hp => hv p (h.mem_iff.2 hp)) hb
  exact k4y h1.1 h2.1 fun z => (h1.2.1 z).trans ((wA h z).trans (h2.2.1 z).symm)
/-! intersections -/
def sF (p q : Sp) : List Sp := if max p.1 q.1 ≤ min p.2 q.2 then [(max p.1 q.1, min p.2 q.2)] else []
def xS (p : Sp) (b : List Sp) : List Sp := b.flatMap (sF p)
def g8 (a b : List Sp) : List Sp := a.flatMap fun p => xS p b
theorem wN {p q : Sp} (h : p.2 < q.1 ∨ q.2 < p.1) : sF p q = [] := by unfold sF; rw [if_neg (by omega)]
theorem wL {p : Sp} : ∀ {b : List Sp}, (∀ q ∈ b, p.2 < q.1 ∨ q.2 < p.1) → xS p b = []
  | [], _ => rfl
  | q :: b, h => by
    show sF p q ++ xS p b = []
    rw [wN (h q (kb5 ..)), wL fun r hr => h r (kb9 _ hr)]; rfl
theorem lL : ∀ a : List Sp, g8 a [] = []
  | [] => rfl
  | p :: a => by show xS p [] ++ g8 a [] = []; rw [lL a]; rfl
theorem k1n {x y : Sp} {a b : List Sp} (hb : iA (y :: b)) (h : x.2 < y.2) : g8 (x :: a) (y :: b) = sF x y ++ g8 a (y :: b) := by
  show (sF x y ++ xS x b) ++ _ = _
  rw [wL fun q hq => .inl (by have := hb.2.1 q hq; omega), kd6]; rfl
theorem wM {y : Sp} {b : List Sp} : ∀ {a : List Sp}, (∀ p ∈ a, y.2 < p.1) → g8 a (y :: b) = g8 a b
  | [], _ => rfl
  | p :: a, h => by
    show (sF p y ++ xS p b) ++ g8 a (y :: b) = xS p b ++ g8 a b
    rw [wN (.inr (h p (kb5 ..))), wM fun q hq => h q (kb9 _ hq)]; rfl
theorem wJ {x y : Sp} {a b : List Sp} (ha : iA (x :: a)) (h : ¬ x.2 < y.2) : g8 (x :: a) (y :: b) = sF x y ++ g8 (x :: a) b := by
  show (sF x y ++ xS x b) ++ g8 a (y :: b) = sF x y ++ (xS x b ++ g8 a b)
  rw [wM fun p hp => by have := ha.2.1 p hp; omega, kc9]
theorem k8w (p q : Sp) : (sF p q).length ≤ 1 := by unfold sF; split <;> simp
theorem z6 : ∀ (n : Nat) (a b : List Sp), a.length + b.length ≤ n → iA a → iA b → (g8 a b).length ≤ a.length + b.length
  | _, [], b, _, _, _ => kd8 _
  | _, p :: a, [], _, _, _ => by rw [lL]; exact kd8 _
  | 0, p :: a, q :: b, h, _, _ => by simp at h
  | n + 1, x :: a, y :: b, h, ha, hb => by
    have h1 := k8w x y
    by_cases hxy : x.2 < y.2
    · rw [k1n hb hxy, ka6]
      have := z6 n a (y :: b) (by simp at h ⊢; omega) ha.2.2 hb
      simp only [ka8] at this ⊢; omega
    · rw [wJ ha hxy, ka6]
      have := z6 n (x :: a) b (by simp at h ⊢; omega) ha hb.2.2
      simp only [ka8] at this ⊢; omega
/-! inside -/
def ctE (p q : Sp) : Bool := decide (q.1 ≤ p.1 ∧ p.2 ≤ q.2)
/-! the nearest -/
def clP (n : Int) (p : Sp) : Int := max p.1 (min p.2 n)
def bG (a b : Int) : Int := if b < a then a - b else b - a
def nrP (n : Int) : List Sp → Option Int → Option Int
  | [], o => o
  | p :: r, o => nrP n r (match o with
    | none => some (clP n p)
    | some v => if bG (clP n p) n < bG v n then some (clP n p) else some v)
/-! spans told as one list of numbers -/
def uZ : List Int → List Sp
  | a :: b :: r => (a, b) :: uZ r
  | _ => []
def fl : List Sp → List Int
  | [] => []
  | p :: r => p.1 :: p.2 :: fl r
theorem eD : ∀ s : List Sp, (fl s).length = s.length * 2
  | [] => rfl
  | p :: r => by show (fl r).length + 1 + 1 = (r.length + 1) * 2; rw [eD r]; omega
theorem hD : ∀ a b : List Sp, fl (a ++ b) = fl a ++ fl b
  | [], b => rfl
  | p :: a, b => by show p.1 :: p.2 :: fl (a ++ b) = p.1 :: p.2 :: (fl a ++ fl b); rw [hD a b]
theorem k5p : ∀ (n : Nat) (l : List Int), l.length = n * 2 → fl (uZ l) = l
  | 0, [], _ => rfl
  | 0, _ :: _, h => by simp at h
  | n + 1, a :: b :: r, h => by
    show a :: b :: fl (uZ r) = a :: b :: r
    rw [k5p n r (by simp at h; omega)]
  | n + 1, [_], h => by simp at h; omega
  | n + 1, [], h => by simp at h
theorem u3 {n : Nat} {l : List Int} (h : l.length = n * 2) : (uZ l).length = n := by
  have h1 := eD (uZ l)
  rw [k5p n l h] at h1; omega
theorem mK {n : Nat} {a b : List Int} (h : a.length = n * 2) : uZ (a ++ b) = uZ a ++ uZ b := by
  induction n generalizing a with
  | zero =>
    have : a = [] := kd2 (by omega)
    subst this; rfl
  | succ n ih =>
    match a, h with
    | x :: y :: r, h =>
      show (x, y) :: uZ (r ++ b) = (x, y) :: (uZ r ++ uZ b)
      rw [ih (by simp at h; omega)]
    | [_], h => simp at h; omega
    | [], h => simp at h
theorem aD : ∀ (n : Nat) (l : List Int) (j : Nat), l.length = n * 2 → j < n → (uZ l)[j]? = some (ka1 l (j * 2) 0, ka1 l (j * 2 + 1) 0)
  | n + 1, a :: b :: r, 0, _, _ => rfl
  | n + 1, a :: b :: r, j + 1, h, hj => by
    show (uZ r)[j]? = _
    rw [aD n r j (by simp at h; omega) (by omega)]
    rw [show (j + 1) * 2 = j * 2 + 1 + 1 by omega]; rfl
  | n + 1, [_], _, h, _ => by simp at h; omega
  | n + 1, [], _, h, _ => by simp at h
theorem mP {n : Nat} {l : List Int} (h : l.length = n * 2) {p : Sp} : p ∈ uZ l ↔ ∃ j, j < n ∧ p = (ka1 l (j * 2) 0, ka1 l (j * 2 + 1) 0) := by
  constructor
  · intro hp
    obtain ⟨j, hj, e⟩ := List.mem_iff_getElem.1 hp
    rw [u3 h] at hj
    have := aD n l j h hj
    rw [kb1 (by rw [u3 h]; exact hj), e] at this
    exact ⟨j, hj, Option.some.inj this⟩
  · rintro ⟨j, hj, rfl⟩
    exact kd5 (aD n l j h hj)
theorem k4d {n : Nat} {l : List Int} (h : l.length = n * 2) {k : Nat} (hk : k ≤ n) : uZ (ka3 (k * 2) l) = ka3 k (uZ l) := by
  have h1 := mK (n := k) (a := ka3 (k * 2) l) (b := ka4 (k * 2) l) (by rw [ka9]; omega)
  rw [kf9] at h1
  have h2 := u3 (n := k) (l := ka3 (k * 2) l) (by rw [ka9]; omega)
  conv => rhs; rw [h1]
  exact (kk5 h2).symm
theorem k4f {n : Nat} {l : List Int} (h : l.length = n * 2) {k : Nat} (hk : k ≤ n) : uZ (ka4 (k * 2) l) = ka4 k (uZ l) := by
  have h1 := mK (n := k) (a := ka3 (k * 2) l) (b := ka4 (k * 2) l) (by rw [ka9]; omega)
  rw [kf9] at h1
  have h2 := u3 (n := k) (l := ka3 (k * 2) l) (by rw [ka9]; omega)
  conv => rhs; rw [h1]
  exact (List.drop_left' h2).symm
theorem k4e {n : Nat} {l : List Int} (h : l.length = n * 2) (a b : Int) : uZ (l ++ [a, b]) = uZ l ++ [(a, b)] := mK h
theorem b8 {n : Nat} {l : List Int} (h : l.length = n * 2) {k : Nat} (hk : k < n) : ka4 k (uZ l) = (ka1 l (k * 2) 0, ka1 l (k * 2 + 1) 0) :: ka4 (k + 1) (uZ l) := by
  have hl := u3 h
  rw [List.drop_eq_getElem_cons (by omega)]
  have := aD n l k h hk
  rw [kb1 (by omega)] at this
  rw [Option.some.inj this]
theorem yK {n : Nat} {l : List Int} (h : l.length = n * 2) {k : Nat} (hk : k < n) : ka3 (k + 1) (uZ l) = ka3 k (uZ l) ++ [(ka1 l (k * 2) 0, ka1 l (k * 2 + 1) 0)] := by
  rw [List.take_add_one, aD n l k h hk]; rfl
/-! valid sets -/
def vaE (l : List Int) (j : Nat) : Bool := decide (0 ≤ ka1 l (j * 2) 0 ∧ ka1 l (j * 2) 0 ≤ ka1 l (j * 2 + 1) 0 ∧ ka1 l (j * 2 + 1) 0 ≤ 2147483647 ∧ (j = 0 ∨ ka1 l ((j - 1) * 2 + 1) 0 + 1 < ka1 l (j * 2) 0))
def gJ (l : List Int) (n : Nat) : Bool := decide (n ≤ 64) && (List.range n).all (vaE l)
theorem eR {l : List Int} {n : Nat} (h1 : n ≤ 64) (h : ∀ j, j < n → vaE l j = true) : gJ l n = true :=
  Bool.and_eq_true_iff.2 ⟨decide_eq_true h1, List.all_eq_true.2 fun j hj => h j (List.mem_range.1 hj)⟩
theorem gI {l : List Int} {n : Nat} (h1 : ¬ n ≤ 64) : gJ l n = false := by unfold gJ; rw [decide_eq_false h1]; rfl
theorem gH {l : List Int} {n k : Nat} (hk : k < n) (h : vaE l k = false) : gJ l n = false := by
  cases hb : gJ l n with
  | false => rfl
  | true =>
    have := List.all_eq_true.1 (Bool.and_eq_true_iff.1 hb).2 k (List.mem_range.2 hk)
    rw [h] at this; cases this
theorem k4x : ∀ (s : List Sp), (∀ (j : Nat) (p : Sp), s[j]? = some p → nH p) → (∀ (j : Nat) (p q : Sp), s[j]? = some p → s[j + 1]? = some q → p.2 + 1 < q.1) → iA s
  | [], _, _ => trivial
  | p :: r, h1, h2 => by
    have ih := k4x r (fun j q hq => h1 (j + 1) q hq) (fun j a b ha hb => h2 (j + 1) a b ha hb)
    refine ⟨h1 0 p rfl, ?_, ih⟩
    have hp := h1 0 p rfl
    match r, ih, h2 with
    | [], _, _ => intro q hq; cases hq
    | a :: r, ih, h2 =>
      have h3 := h2 0 p a rfl rfl
      have ha := ih.1
      unfold nH at ha
      intro q hq
      rcases List.mem_cons.1 hq with rfl | hq
      · exact h3
      · have := ih.2.1 q hq; omega
theorem k18 : ∀ (s : List Sp), iA s → ∀ (j : Nat) (p q : Sp), s[j]? = some p → s[j + 1]? = some q → p.2 + 1 < q.1
  | [], _, j, p, q, h, _ => by simp at h
  | a :: r, h, 0, p, q, hp, hq => by
    have hp : some a = some p := hp
    cases hp
    exact h.2.1 q (kd5 (show r[0]? = some q from hq))
  | a :: r, h, j + 1, p, q, hp, hq => k18 r h.2.2 j p q hp hq
theorem k80 {l : List Int} {n : Nat} (hl : l.length = n * 2) : gJ l n = true ↔ n ≤ 64 ∧ iA (uZ l) := by
  constructor
  · intro h
    have h1 := Bool.and_eq_true_iff.1 h
    have ha : ∀ j, j < n → vaE l j = true := fun j hj => List.all_eq_true.1 h1.2 j (List.mem_range.2 hj)
    refine ⟨of_decide_eq_true h1.1, k4x _ (fun j p hp => ?_) (fun j p q hp hq => ?_)⟩
    · have hj : j < n := by have := (List.getElem?_eq_some_iff.1 hp).1; rw [u3 hl] at this; exact this
      rw [aD n l j hl hj] at hp
      cases hp
      have := of_decide_eq_true (ha j hj)
      exact ⟨this.1, this.2.1, this.2.2.1⟩
    · have hj : j + 1 < n := by have := (List.getElem?_eq_some_iff.1 hq).1; rw [u3 hl] at this; exact this
      rw [aD n l j hl (by omega)] at hp
      rw [aD n l (j + 1) hl hj] at hq
      cases hp; cases hq
      have := (of_decide_eq_true (ha (j + 1) hj)).2.2.2
      rw [show j + 1 - 1 = j by omega] at this
      rcases this with h9 | h9
      · omega
      · exact h9
  · rintro ⟨h1, h2⟩
    refine eR h1 fun j hj => decide_eq_true ?_
    have hv := k17 h2 _ (kd5 (aD n l j hl hj))
    refine ⟨hv.1, hv.2.1, hv.2.2, ?_⟩
    rcases kk1 j with h9 | h9
    · exact .inl h9
    · right
      have e := aD n l (j - 1) hl (by omega)
      have e2 := aD n l j hl hj
      rw [show j = j - 1 + 1 by omega] at e2
      have := k18 _ h2 (j - 1) _ _ e e2
      rw [show j - 1 + 1 = j by omega] at this
      exact this
def kB (l : List Int) (n : Nat) : List Int := if gJ l n = true then l else []
def kQ (l : List Int) (n : Nat) : Nat := if gJ l n = true then n else 0
theorem k44 {l : List Int} {n : Nat} (h : gJ l n = true) : kB l n = l ∧ kQ l n = n := ⟨if_pos h, if_pos h⟩
theorem u1p {l : List Int} {n : Nat} (h : gJ l n = false) : kB l n = [] ∧ kQ l n = 0 := by unfold kB kQ; rw [h]; exact ⟨rfl, rfl⟩
theorem kV {l : List Int} {n : Nat} (hl : l.length = n * 2) : (kB l n).length = kQ l n * 2 := by
  unfold kB kQ; split
  · exact hl
  · rfl
theorem uL {l : List Int} {n : Nat} (hl : l.length = n * 2) : iA (uZ (kB l n)) := by
  cases h : gJ l n with
  | true => rw [(k44 h).1]; exact ((k80 hl).1 h).2
  | false => rw [(u1p h).1]; trivial
theorem cF {l : List Int} {n : Nat} : kQ l n ≤ 64 ∧ kQ l n ≤ n := by
  unfold kQ; split
  · rename_i h; exact ⟨of_decide_eq_true (Bool.and_eq_true_iff.1 h).1, kc7 _⟩
  · exact ⟨kd8 _, kd8 _⟩
def RG (l : List Int) (n : Nat) : Prop := ∀ j, j < n → 0 ≤ ka1 l (j * 2) 0 ∧ ka1 l (j * 2) 0 ≤ ka1 l (j * 2 + 1) 0 ∧ ka1 l (j * 2 + 1) 0 ≤ 2147483647
theorem RG.v {l : List Int} {n : Nat} (hl : l.length = n * 2) (h : RG l n) : ∀ p ∈ uZ l, nH p := fun p hp => by
  obtain ⟨j, hj, rfl⟩ := (mP hl).1 hp
  exact h j hj
theorem u1b {l : List Int} {n : Nat} (hl : l.length = n * 2) (h : ∀ p ∈ uZ l, nH p) : RG l n := fun j hj => h _ ((mP hl).2 ⟨j, hj, rfl⟩)
def stP (s : List Sp) : List Sp := s.mergeSort fun a b => decide (a.1 ≤ b.1)
theorem fA (s : List Sp) : (stP s).Perm s := List.mergeSort_perm _ _
theorem k3z (s : List Sp) : srP (stP s) := by
  have h := List.pairwise_mergeSort (le := fun (x y : Sp) => decide (x.1 ≤ y.1)) (fun a b c h1 h2 => decide_eq_true (by have := of_decide_eq_true h1; have := of_decide_eq_true h2; omega)) (fun a b => by
    rw [Bool.or_eq_true]
    rcases Int.le_total a.1 b.1 with h | h
    · exact .inl (decide_eq_true h)
    · exact .inr (decide_eq_true h)) s
  exact h.imp fun h => of_decide_eq_true h
def mkP (s : List Sp) : List Sp := jnP (stP s)
theorem u4s {s : List Sp} (hv : ∀ p ∈ s, nH p) : iA (mkP s) ∧ (∀ z, gL (mkP s) z ↔ gL s z) ∧ (mkP s).length ≤ s.length := by
  obtain ⟨h1, h2, h3⟩ := k5f (s := stP s) (fun p hp => hv p ((fA s).mem_iff.1 hp)) (k3z s)
  exact ⟨h1, fun z => (h2 z).trans (wA (fA s) z), by rw [(fA s).length_eq] at h3; exact h3⟩
theorem k2y {s t : List Sp} (hv : ∀ p ∈ s, nH p) (h : t.Perm s) (ht : srP t) : jnP t = mkP s :=
  (k8v ((fA s).trans h.symm) (fun p hp => hv p ((fA s).mem_iff.1 hp)) (k3z s) ht).symm
structure SI (l : List Int) (i : Nat) (o : List Int) : Prop where
  len : o.length = i * 2
  perm : (uZ o).Perm (ka3 i (uZ l))
  sr : srP (uZ o)
theorem SI.zero (l : List Int) : SI l 0 [] := ⟨rfl, List.Perm.refl _, List.Pairwise.nil⟩
theorem SI.rg {l o : List Int} {n i : Nat} (h : SI l i o) (hl : l.length = n * 2) (hi : i ≤ n) (hr : RG l n) : RG o i :=
  u1b h.len fun p hp => hr.v hl p (kg6 (h.perm.mem_iff.1 hp))
theorem rU {s : List Sp} (h : srP s) {i j : Nat} {p q : Sp} (hij : i ≤ j) (hp : s[i]? = some p) (hq : s[j]? = some q) : p.1 ≤ q.1 := by
  obtain ⟨h1, rfl⟩ := List.getElem?_eq_some_iff.1 hp
  obtain ⟨h2, rfl⟩ := List.getElem?_eq_some_iff.1 hq
  rcases ki0 i j with h9 | h9
  · exact List.pairwise_iff_getElem.1 h i j h1 h2 h9
  · have e : i = j := by omega
    subst e; exact ke2 _
theorem SI.step {l o q : List Int} {n i k : Nat} {a b : Int} (h : SI l i o) (hl : l.length = n * 2) (hi : i < n) (ha : a = ka1 l (i * 2) 0) (hb : b = ka1 l (i * 2 + 1) 0) (hk : k ≤ i) (h1 : ∀ j, k ≤ j → j < i → a < ka1 o (j * 2) 0) (h2 : k = 0 ∨ ka1 o ((k - 1) * 2) 0 ≤ a) (hq : q = ka3 (k * 2) o ++ [a, b] ++ ka4 (k * 2) o) : SI l (i + 1) q := by
  have e : uZ q = ka3 k (uZ o) ++ [(a, b)] ++ ka4 k (uZ o) := by
    rw [hq, mK (n := k + 1) (by rw [ka6, ka9, h.len]; simp only [ka8, kb3]; omega), k4e (n := k) (by rw [ka9, h.len]; omega), k4d h.len hk, k4f h.len hk]
  refine ⟨?_, ?_, ?_⟩
  · rw [hq]; simp only [ka6, ka9, kb0, ka8, kb3, h.len]; omega
  · rw [e, yK hl hi, ← ha, ← hb, kc9]
    refine (List.Perm.append_left _ List.perm_append_comm).trans ?_
    rw [← kc9, kf9]
    exact h.perm.append_right _
  · have hg : ∀ j, j < i → (uZ o)[j]? = some (ka1 o (j * 2) 0, ka1 o (j * 2 + 1) 0) := fun j hj => aD i o j h.len hj
    rw [e, srP, kc9, List.pairwise_append]
    refine ⟨h.sr.sublist (List.take_sublist _ _), List.Pairwise.cons (fun x hx => ?_) (h.sr.sublist (List.drop_sublist _ _)), fun x hx y hy => ?_⟩
    · obtain ⟨j, hj, e2⟩ := List.mem_iff_getElem?.1 hx |>.elim fun j hj => (⟨j, (List.getElem?_eq_some_iff.1 hj).1, hj⟩ : ∃ j, j < (ka4 k (uZ o)).length ∧ (ka4 k (uZ o))[j]? = some x)
      rw [kb0, u3 h.len] at hj
      rw [ke0, hg _ (by omega)] at e2
      cases e2
      have := h1 (k + j) (by omega) (by omega)
      show a ≤ _; omega
    · obtain ⟨j, hj⟩ := List.mem_iff_getElem?.1 hx
      have hj2 := (List.getElem?_eq_some_iff.1 hj).1
      rw [ka9, u3 h.len] at hj2
      rw [List.getElem?_take, if_pos (by omega)] at hj
      have hxa : x.1 ≤ a := by
        rcases h2 with h2 | h2
        · omega
        · have := rU h.sr (show j ≤ k - 1 by omega) hj (hg (k - 1) (by omega))
          exact Int.le_trans this h2
      rcases List.mem_cons.1 (show y ∈ (a, b) :: ka4 k (uZ o) from hy) with rfl | hy
      · exact hxa
      · obtain ⟨m, hm⟩ := List.mem_iff_getElem?.1 hy
        have hm2 := (List.getElem?_eq_some_iff.1 hm).1
        rw [kb0, u3 h.len] at hm2
        rw [ke0, hg _ (by omega)] at hm
        cases hm
        have := h1 (k + m) (by omega) (by omega)
        show x.1 ≤ _; omega
theorem SI.all {l o : List Int} {n i : Nat} (h : SI l i o) (hl : l.length = n * 2) (hi : n ≤ i) : (uZ o).Perm (uZ l) := by
  have := h.perm
  rw [kb7 (by rw [u3 hl]; exact hi)] at this
  exact this
def MG (o : List Int) (i : Nat) (k : Nat) (out : List Int) : Prop := out = fl ((ka3 i (uZ o)).foldl lJ []).reverse ∧ ((ka3 i (uZ o)).foldl lJ []).length = k
theorem MG.zero (o : List Int) : MG o 0 0 [] := ⟨rfl, rfl⟩
theorem MG.len {o out : List Int} {i k : Nat} (h : MG o i k out) : out.length = k * 2 := by rw [h.1, eD, kc1, h.2]
theorem u2o (r : List Sp) (l : Sp) (v : Int) : List.set (fl (r ++ [l])) (r.length * 2 + 1) v = fl (r ++ [(l.1, v)]) := by
  rw [hD, hD, ← eD r, List.set_append_right _ _ (by omega), show (fl r).length + 1 - (fl r).length = 1 by omega]; rfl
theorem k96 (r : List Sp) (l : Sp) : ka1 (fl (r ++ [l])) (r.length * 2 + 1) 0 = l.2 := by
  rw [hD, List.getD_eq_getElem?_getD, ← eD r, List.getElem?_append_right (by omega), show (fl r).length + 1 - (fl r).length = 1 by omega]; rfl
theorem MG.last {o out : List Int} {i k : Nat} (h : MG o i k out) (hk : 1 ≤ k) : ∃ l r, (ka3 i (uZ o)).foldl lJ [] = l :: r ∧ out = fl (r.reverse ++ [l]) ∧ r.length = k - 1 ∧ ka1 out ((k - 1) * 2 + 1) 0 = l.2 := by
  obtain ⟨h1, h2⟩ := h
  cases e : (ka3 i (uZ o)).foldl lJ [] with
  | nil => rw [e] at h2; simp at h2; omega
  | cons l r =>
    rw [e] at h1 h2
    rw [kf3] at h1
    have h3 : r.length = k - 1 := by simp at h2; omega
    refine ⟨l, r, rfl, h1, h3, ?_⟩
    rw [h1, ← h3, ← (kc1 : r.reverse.length = r.length)]; exact k96 _ _
theorem MG.next {o : List Int} {n i : Nat} (hl : o.length = n * 2) (hi : i < n) : (ka3 (i + 1) (uZ o)).foldl lJ [] = lJ ((ka3 i (uZ o)).foldl lJ []) (ka1 o (i * 2) 0, ka1 o (i * 2 + 1) 0) := by
  rw [yK hl hi, List.foldl_append]; rfl
theorem MG.new {o out q : List Int} {n i k : Nat} {a b : Int} (h : MG o i k out) (hl : o.length = n * 2) (hi : i < n) (ha : a = ka1 o (i * 2) 0) (hb : b = ka1 o (i * 2 + 1) 0) (h2 : k = 0 ∨ ka1 out ((k - 1) * 2 + 1) 0 + 1 < a) (hq : q = out ++ [a, b]) : MG o (i + 1) (k + 1) q := by
  unfold MG
  rw [MG.next hl hi, ← ha, ← hb, hq]
  rcases kk1 k with h0 | h0
  · have h3 := h.2
    rw [h0] at h3
    have e := kd2 h3
    rw [h.1, e]; subst h0; exact ⟨rfl, rfl⟩
  · obtain ⟨l, r, e, e1, e2, e3⟩ := h.last h0
    rw [e]
    have h4 : l.2 + 1 < a := by
      rcases h2 with h2 | h2
      · omega
      · rw [e3] at h2; exact h2
    have e5 : lJ (l :: r) (a, b) = (a, b) :: l :: r := by
      show (if a ≤ l.2 + 1 then _ else _) = _
      rw [if_neg (by omega)]
    rw [e5, e1]
    refine ⟨?_, by simp only [ka8]; omega⟩
    rw [kf3, kf3, hD (r.reverse ++ [l])]; rfl
theorem MG.join {o out q : List Int} {n i k : Nat} {a b v : Int} (h : MG o i k out) (hl : o.length = n * 2) (hi : i < n) (ha : a = ka1 o (i * 2) 0) (hb : b = ka1 o (i * 2 + 1) 0) (hk : 1 ≤ k) (h2 : a ≤ ka1 out ((k - 1) * 2 + 1) 0 + 1) (hv : v = max (ka1 out ((k - 1) * 2 + 1) 0) b) (hq : q = List.set out ((k - 1) * 2 + 1) v) : MG o (i + 1) k q := by
  unfold MG
  rw [MG.next hl hi, ← ha, ← hb, hq]
  obtain ⟨l, r, e, e1, e2, e3⟩ := h.last hk
  rw [e]
  rw [e3] at h2 hv
  have e5 : lJ (l :: r) (a, b) = (l.1, max l.2 b) :: r := by
    show (if a ≤ l.2 + 1 then _ else _) = _
    rw [if_pos h2]
  rw [e5, e1, ← e2]
  refine ⟨?_, by simp only [ka8]; omega⟩
  rw [← (kc1 : r.reverse.length = r.length), u2o, kf3, hv]
theorem MG.fin {o out : List Int} {n i k : Nat} (h : MG o i k out) (hl : o.length = n * 2) (hi : n ≤ i) : out = fl (jnP (uZ o)) ∧ (jnP (uZ o)).length = k := by
  unfold MG at h
  rw [kb7 (by rw [u3 hl]; exact hi)] at h
  refine ⟨h.1, ?_⟩
  unfold jnP jnR; rw [kc1]; exact h.2
theorem u4t : ∀ (s o : List Sp), (∀ p ∈ o, nH p) → (∀ p ∈ s, nH p) → ∀ p ∈ s.foldl lJ o, 0 ≤ p.1 ∧ 0 ≤ p.2 ∧ p.2 ≤ 2147483647
  | [], o, h, _, p, hp => by have := h p hp; unfold nH at this; omega
  | x :: s, o, h, hs, p, hp => by
    refine u4t s (lJ o x) (fun q hq => ?_) (fun q hq => hs q (kb9 _ hq)) p hp
    have hx := hs x (kb5 ..)
    cases o with
    | nil => rw [List.mem_singleton.1 (show q ∈ [x] from hq)]; exact hx
    | cons l r =>
      have hl := h l (kb5 ..)
      have hq : q ∈ (if x.1 ≤ l.2 + 1 then (l.1, max l.2 x.2) :: r else x :: l :: r) := hq
      unfold nH at hx hl
      split at hq
      · rcases List.mem_cons.1 hq with rfl | hq
        · exact ⟨hl.1, by show l.1 ≤ max l.2 x.2; omega, by show max l.2 x.2 ≤ _; omega⟩
        · exact h q (kb9 _ hq)
      · rcases List.mem_cons.1 hq with rfl | hq
        · exact hx
        · exact h q hq
theorem MG.hi {o out : List Int} {n i k : Nat} (h : MG o i k out) (hl : o.length = n * 2) (hr : RG o n) (hk : 1 ≤ k) : 0 ≤ ka1 out ((k - 1) * 2 + 1) 0 ∧ ka1 out ((k - 1) * 2 + 1) 0 ≤ 2147483647 := by
  obtain ⟨l, r, e, _, _, e3⟩ := h.last hk
  rw [e3]
  have := u4t (ka3 i (uZ o)) [] (fun _ h => (by cases h)) (fun p hp => hr.v hl p (kg6 hp)) l (by rw [e]; exact kb5 ..)
  exact ⟨this.2.1, this.2.2⟩
/-! the functions on lists -/
def rgE (l : List Int) (j : Nat) : Bool := decide (0 ≤ ka1 l (j * 2) 0 ∧ ka1 l (j * 2) 0 ≤ ka1 l (j * 2 + 1) 0 ∧ ka1 l (j * 2 + 1) 0 ≤ 2147483647)
def rgB (l : List Int) (n : Nat) : Bool := (List.range n).all (rgE l)
theorem u3z {l : List Int} {n : Nat} (h : ∀ j, j < n → rgE l j = true) : rgB l n = true := List.all_eq_true.2 fun j hj => h j (List.mem_range.1 hj)
theorem u1s {l : List Int} {n k : Nat} (hk : k < n) (h : rgE l k = false) : rgB l n = false := by
  cases hb : rgB l n with
  | false => rfl
  | true => have := List.all_eq_true.1 hb k (List.mem_range.2 hk); rw [h] at this; cases this
theorem zI {l : List Int} {n : Nat} : rgB l n = true ↔ RG l n := ⟨fun h j hj => of_decide_eq_true (List.all_eq_true.1 h j (List.mem_range.2 hj)), fun h => u3z fun j hj => decide_eq_true (h j hj)⟩
def jdS (l : List Int) : List Int := fl (mkP (uZ l))
def oM (l : List Int) : Nat := (mkP (uZ l)).length
theorem k5h (l : List Int) : (jdS l).length = oM l * 2 := eD _
theorem u52 {l : List Int} {n : Nat} (hl : l.length = n * 2) (hr : RG l n) : oM l ≤ n := by
  have := (u4s (hr.v hl)).2.2
  rw [u3 hl] at this; exact this
theorem u2c {l o out : List Int} {n k : Nat} (hl : l.length = n * 2) (hr : RG l n) (ho : o.length = n * 2) (hp : (uZ o).Perm (uZ l)) (hs : srP (uZ o)) (h : MG o n k out) : out = jdS l ∧ oM l = k := by
  obtain ⟨h1, h2⟩ := h.fin ho (kc7 _)
  rw [k2y (hr.v hl) hp hs] at h1 h2
  exact ⟨h1, h2⟩
def oL (l : List Int) (n : Nat) : Int := if rgB l n = true then (if oM l ≤ 64 then 0 else 3) else 2
def fU (l : List Int) (n : Nat) : List Int := if rgB l n = true ∧ oM l ≤ 64 then jdS l else []
def vY (l : List Int) (n : Nat) : Nat := if rgB l n = true ∧ oM l ≤ 64 then oM l else 0
theorem z4 {l : List Int} {n : Nat} (h : rgB l n = false) : oL l n = 2 ∧ fU l n = [] ∧ vY l n = 0 := by
  unfold oL fU vY; rw [h]
  exact ⟨if_neg kh5, if_neg fun h => absurd h.1 kh5, if_neg fun h => absurd h.1 kh5⟩
theorem u26 {l : List Int} {n : Nat} (h : rgB l n = true) (h2 : 64 < oM l) : oL l n = 3 ∧ fU l n = [] ∧ vY l n = 0 := by
  unfold oL fU vY
  rw [if_pos h]
  exact ⟨if_neg (by omega), if_neg fun h => by omega, if_neg fun h => by omega⟩
theorem k8m {l : List Int} {n : Nat} (h : rgB l n = true) (h2 : oM l ≤ 64) : oL l n = 0 ∧ fU l n = jdS l ∧ vY l n = oM l := by
  unfold oL fU vY
  rw [if_pos h]
  exact ⟨if_pos h2, if_pos ⟨h, h2⟩, if_pos ⟨h, h2⟩⟩
theorem mO (l : List Int) (n : Nat) : (fU l n).length = vY l n * 2 := by
  unfold fU vY; split
  · exact k5h l
  · rfl
theorem r5 (l : List Int) (n : Nat) : (0 ≤ oL l n ∧ oL l n ≤ 3) ∧ vY l n ≤ 64 := by
  constructor
  · unfold oL; (repeat' split) <;> omega
  · unfold vY; split <;> omega
/-! members -/
def oE (l : List Int) (x : Int) : Bool := (uZ l).any fun p => decide (p.1 ≤ x ∧ x ≤ p.2)
theorem k5l {l : List Int} {x : Int} : oE l x = true ↔ gL (uZ l) x := by
  unfold oE gL
  rw [List.any_eq_true]
  constructor
  · rintro ⟨p, hp, h⟩; exact ⟨p, hp, of_decide_eq_true h⟩
  · rintro ⟨p, hp, h⟩; exact ⟨p, hp, decide_eq_true h⟩
theorem u54 {l : List Int} {n k : Nat} {x : Int} (hl : l.length = n * 2) (hk : k < n) (h : ka1 l (k * 2) 0 ≤ x ∧ x ≤ ka1 l (k * 2 + 1) 0) : oE l x = true := k5l.2 ⟨_, (mP hl).2 ⟨k, hk, rfl⟩, h⟩
theorem u55 {l : List Int} {n : Nat} {x : Int} (hl : l.length = n * 2) (h : ∀ j, j < n → ¬ (ka1 l (j * 2) 0 ≤ x ∧ x ≤ ka1 l (j * 2 + 1) 0)) : oE l x = false := by
  cases hb : oE l x with
  | false => rfl
  | true =>
    obtain ⟨p, hp, h1⟩ := k5l.1 hb
    obtain ⟨j, hj, rfl⟩ := (mP hl).1 hp
    exact absurd h1 (h j hj)
/-! inside -/
def coB (b : List Int) (p q : Int) : Bool := (uZ b).any (ctE (p, q))
/-! the nearest -/
def NR (n : Int) (l : List Int) (i : Nat) (b : Int) (f : Bool) : Prop := nrP n (ka3 i (uZ l)) none = (if f = true then some b else none) ∧ (f = false → b = 0)
theorem mM (n : Int) (p : Sp) : ∀ (s : List Sp) (o : Option Int), nrP n (s ++ [p]) o = match nrP n s o with
    | none => some (clP n p)
    | some v => if bG (clP n p) n < bG v n then some (clP n p) else some v
  | [], o => rfl
  | q :: s, o => mM n p s _
theorem NR.zero (n : Int) (l : List Int) : NR n l 0 0 false := ⟨rfl, fun _ => rfl⟩
theorem NR.first {n : Int} {l : List Int} {i m : Nat} {b v : Int} (h : NR n l i b false) (hl : l.length = m * 2) (hi : i < m) (hv : v = clP n (ka1 l (i * 2) 0, ka1 l (i * 2 + 1) 0)) : NR n l (i + 1) v true := by
  refine ⟨?_, fun h => by cases h⟩
  rw [yK hl hi, mM, h.1, hv]; rfl
theorem NR.near {n : Int} {l : List Int} {i m : Nat} {b v : Int} (h : NR n l i b true) (hl : l.length = m * 2) (hi : i < m) (hv : v = clP n (ka1 l (i * 2) 0, ka1 l (i * 2 + 1) 0)) (hd : bG v n < bG b n) : NR n l (i + 1) v true := by
  refine ⟨?_, fun h => by cases h⟩
  rw [yK hl hi, mM, h.1, ← hv]
  show (if bG v n < bG b n then some v else some b) = some v
  rw [if_pos hd]
theorem NR.far {n : Int} {l : List Int} {i m : Nat} {b v : Int} (h : NR n l i b true) (hl : l.length = m * 2) (hi : i < m) (hd : ¬ bG v n < bG b n) (hv : v = clP n (ka1 l (i * 2) 0, ka1 l (i * 2 + 1) 0)) : NR n l (i + 1) b true := by
  refine ⟨?_, fun h => by cases h⟩
  rw [yK hl hi, mM, h.1, ← hv]
  show (if bG v n < bG b n then some v else some b) = some b
  rw [if_neg hd]
def q8 (n : Int) (l : List Int) : Int := (nrP n (uZ l) none).getD 0
def nrF (n : Int) (l : List Int) : Bool := (nrP n (uZ l) none).isSome
theorem NR.fin {n : Int} {l : List Int} {i m : Nat} {b : Int} {f : Bool} (h : NR n l i b f) (hl : l.length = m * 2) (hi : m ≤ i) : q8 n l = b ∧ nrF n l = f := by
  have h1 := h.1
  rw [kb7 (by rw [u3 hl]; exact hi)] at h1
  unfold q8 nrF
  rw [h1]
  cases f with
  | true => exact ⟨rfl, rfl⟩
  | false => exact ⟨(h.2 rfl).symm, rfl⟩
/-! intersections -/
def nT (a b : List Int) : List Int := fl (ka3 64 (g8 (uZ a) (uZ b)))
def uR (a b : List Int) : Nat := (ka3 64 (g8 (uZ a) (uZ b))).length
theorem sG (a b : List Int) : (nT a b).length = uR a b * 2 := eD _
theorem k1o (a b : List Int) : uR a b ≤ 64 := by unfold uR; rw [ka9]; omega
structure IX (a b : List Int) (i j k : Nat) (out : List Int) : Prop where
  ex : ∃ q, out = fl q ∧ q.length = k ∧ q ++ g8 (ka4 i (uZ a)) (ka4 j (uZ b)) = g8 (uZ a) (uZ b)
theorem IX.zero (a b : List Int) : IX a b 0 0 0 [] := ⟨[], rfl, rfl, rfl⟩
theorem IX.len {a b out : List Int} {i j k : Nat} (h : IX a b i j k out) : out.length = k * 2 := by
  obtain ⟨q, rfl, rfl, _⟩ := h; exact eD q
theorem nR : ∀ (k : Nat) {s : List Sp}, iA s → iA (ka4 k s)
  | 0, _, h => h
  | k + 1, [], _ => trivial
  | k + 1, p :: s, h => nR k h.2.2
theorem IX.put {a b out o : List Int} {n m i j k : Nat} {u v : Int} (h : IX a b i j k out) (ha : a.length = n * 2) (hb : b.length = m * 2) (oa : iA (uZ a)) (ob : iA (uZ b)) (hi : i < n) (hj : j < m) (hu : u = max (ka1 a (i * 2) 0) (ka1 b (j * 2) 0)) (hv : v = min (ka1 a (i * 2 + 1) 0) (ka1 b (j * 2 + 1) 0)) (ho : (u ≤ v ∧ o = out ++ [u, v]) ∨ (¬ u ≤ v ∧ o = out)) :
    (ka1 a (i * 2 + 1) 0 < ka1 b (j * 2 + 1) 0 → IX a b (i + 1) j (if u ≤ v then k + 1 else k) o) ∧ (¬ ka1 a (i * 2 + 1) 0 < ka1 b (j * 2 + 1) 0 → IX a b i (j + 1) (if u ≤ v then k + 1 else k) o) := by
  obtain ⟨q, e1, e2, e3⟩ := h
  rw [b8 ha hi, b8 hb hj] at e3
  have oa2 := nR i oa
  have ob2 := nR j ob
  rw [b8 ha hi] at oa2
  rw [b8 hb hj] at ob2
  have hE : sF (ka1 a (i * 2) 0, ka1 a (i * 2 + 1) 0) (ka1 b (j * 2) 0, ka1 b (j * 2 + 1) 0) = if u ≤ v then [(u, v)] else [] := by unfold sF; rw [hu, hv]
  have hq : o = fl (q ++ (if u ≤ v then [(u, v)] else [])) ∧ (q ++ (if u ≤ v then [(u, v)] else [])).length = if u ≤ v then k + 1 else k := by
    rcases ho with ⟨h1, h2⟩ | ⟨h1, h2⟩
    · rw [if_pos h1, if_pos h1, h2, e1, hD, ka6, e2]; exact ⟨rfl, rfl⟩
    · rw [if_neg h1, if_neg h1, h2, e1, kd6]; exact ⟨rfl, e2⟩
  constructor
  · intro hlt
    rw [k1n ob2 hlt, hE, ← b8 hb hj, ← kc9] at e3
    exact ⟨_, hq.1, hq.2, e3⟩
  · intro hlt
    rw [wJ oa2 hlt, hE, ← b8 ha hi, ← kc9] at e3
    exact ⟨_, hq.1, hq.2, e3⟩
theorem IX.fin {a b out : List Int} {n m i j k : Nat} (h : IX a b i j k out) (ha : a.length = n * 2) (hb : b.length = m * 2) (hk : k ≤ 64) (hf : n ≤ i ∨ m ≤ j ∨ k = 64) : out = nT a b ∧ uR a b = k := by
  obtain ⟨q, e1, e2, e3⟩ := h
  have e4 : ka3 64 (g8 (uZ a) (uZ b)) = q := by
    rw [← e3]
    rcases ki0 k 64 with h9 | h9
    · have e5 : g8 (ka4 i (uZ a)) (ka4 j (uZ b)) = [] := by
        rcases hf with hf | hf | hf
        · rw [kj0 (by rw [u3 ha]; exact hf)]; rfl
        · rw [show ka4 j (uZ b) = [] from kj0 (by rw [u3 hb]; exact hf)]; exact lL _
        · omega
      rw [e5, kd6, kb7 (by omega)]
    · exact kk5 (by omega)
  unfold nT uR
  rw [e4]; exact ⟨e1, e2⟩
def AL (a b : List Int) (i k : Nat) (out : List Int) : Prop := out = fl (g8 (ka3 i (uZ a)) (uZ b)) ∧ (g8 (ka3 i (uZ a)) (uZ b)).length = k
def AJ (a b : List Int) (i j k : Nat) (out : List Int) : Prop := out = fl (g8 (ka3 i (uZ a)) (uZ b) ++ xS (ka1 a (i * 2) 0, ka1 a (i * 2 + 1) 0) (ka3 j (uZ b))) ∧ (g8 (ka3 i (uZ a)) (uZ b) ++ xS (ka1 a (i * 2) 0, ka1 a (i * 2 + 1) 0) (ka3 j (uZ b))).length = k
theorem AL.zero (a b : List Int) : AL a b 0 0 [] := ⟨rfl, rfl⟩
theorem AL.in {a b out : List Int} {i k : Nat} (h : AL a b i k out) : AJ a b i 0 k out := by
  unfold AJ
  rw [show xS (ka1 a (i * 2) 0, ka1 a (i * 2 + 1) 0) (ka3 0 (uZ b)) = [] from rfl, kd6]; exact h
theorem wK (p : Sp) (s : List Sp) (q : Sp) : xS p (s ++ [q]) = xS p s ++ sF p q := by unfold xS; rw [kj3]; simp
theorem k5i (s : List Sp) (p : Sp) (b : List Sp) : g8 (s ++ [p]) b = g8 s b ++ xS p b := by unfold g8; rw [kj3]; simp
theorem AJ.y {a b out o : List Int} {m i j k : Nat} {u v : Int} (h : AJ a b i j k out) (hb : b.length = m * 2) (hj : j < m) (hu : u = max (ka1 a (i * 2) 0) (ka1 b (j * 2) 0)) (hv : v = min (ka1 a (i * 2 + 1) 0) (ka1 b (j * 2 + 1) 0)) (h1 : u ≤ v) (ho : o = out ++ [u, v]) : AJ a b i (j + 1) (k + 1) o := by
  have hE : sF (ka1 a (i * 2) 0, ka1 a (i * 2 + 1) 0) (ka1 b (j * 2) 0, ka1 b (j * 2 + 1) 0) = [(u, v)] := by
    unfold sF; rw [← hu, ← hv, if_pos h1]
  unfold AJ
  rw [yK hb hj, wK, hE, ← kc9, hD, ka6, ← h.1, h.2, ho]; exact ⟨rfl, rfl⟩
theorem AJ.n {a b out : List Int} {m i j k : Nat} (h : AJ a b i j k out) (hb : b.length = m * 2) (hj : j < m) (h1 : ¬ max (ka1 a (i * 2) 0) (ka1 b (j * 2) 0) ≤ min (ka1 a (i * 2 + 1) 0) (ka1 b (j * 2 + 1) 0)) : AJ a b i (j + 1) k out := by
  have hE : sF (ka1 a (i * 2) 0, ka1 a (i * 2 + 1) 0) (ka1 b (j * 2) 0, ka1 b (j * 2 + 1) 0) = [] := by
    unfold sF; rw [if_neg h1]
  unfold AJ
  rw [yK hb hj, wK, hE, kd6]; exact h
theorem AJ.out {a b out : List Int} {n m i j k : Nat} (h : AJ a b i j k out) (ha : a.length = n * 2) (hi : i < n) (hb : b.length = m * 2) (hj : m ≤ j) : AL a b (i + 1) k out := by
  unfold AJ at h
  rw [kb7 (l := uZ b) (by rw [u3 hb]; exact hj), ← k5i, ← yK ha hi] at h
  exact h
theorem AL.fin {a b out : List Int} {n i k : Nat} (h : AL a b i k out) (ha : a.length = n * 2) (hi : n ≤ i) : out = fl (g8 (uZ a) (uZ b)) ∧ (g8 (uZ a) (uZ b)).length = k := by
  unfold AL at h
  rw [kb7 (by rw [u3 ha]; exact hi)] at h; exact h
def uN (a b : List Int) : List Int := fl (g8 (uZ a) (uZ b))
def qD (a b : List Int) : Nat := (g8 (uZ a) (uZ b)).length
theorem sZ (a b : List Int) : (uN a b).length = qD a b * 2 := eD _
theorem k1r : ∀ (k : Nat) (s : List Sp), fl (ka3 k s) = ka3 (k * 2) (fl s)
  | 0, s => by rw [Nat.zero_mul]; rfl
  | k + 1, [] => by simp [fl]
  | k + 1, p :: s => by
    show p.1 :: p.2 :: fl (ka3 k s) = _
    rw [k1r k s, show (k + 1) * 2 = k * 2 + 1 + 1 by omega]; rfl
theorem u53 {a b : List Int} {k : Nat} (hk : k = min (qD a b) 64) : nT a b = ka3 (k * 2) (uN a b) ∧ uR a b = k := by
  unfold nT uR uN
  rw [ka9, ← k1r, hk]
  refine ⟨?_, by unfold qD; omega⟩
  congr 1
  unfold qD
  rcases ki0 (g8 (uZ a) (uZ b)).length 64 with h | h
  · rw [Nat.min_eq_left (by omega), kb7 (by omega), kb7 (kc7 _)]
  · rw [Nat.min_eq_right h]
theorem k29 {a b : List Int} {n m : Nat} (ha : a.length = n * 2) (hb : b.length = m * 2) (oa : iA (uZ a)) (ob : iA (uZ b)) : qD a b ≤ n + m := by
  have := z6 _ (uZ a) (uZ b) (kc7 _) oa ob
  rw [u3 ha, u3 hb] at this; exact this
theorem k5m {o : List Int} {k n : Nat} {p : Int} (h : ∀ j, k ≤ j → j < n → p < ka1 o (j * 2) 0) (h1 : p < ka1 o ((k - 1) * 2) 0) (hk : 1 ≤ k) : ∀ j, k - 1 ≤ j → j < n → p < ka1 o (j * 2) 0 := fun j hj hn => by
  rcases ki0 j k with h7 | h7
  · rw [show j = k - 1 by omega]; exact h1
  · exact h j h7 hn
theorem iL {l : List Int} {k : Nat} (ha : ∀ j, j < k → vaE l j = true) (h : 1 ≤ k) : 0 ≤ ka1 l ((k - 1) * 2 + 1) 0 ∧ ka1 l ((k - 1) * 2 + 1) 0 ≤ 2147483647 := by
  have := of_decide_eq_true (ha (k - 1) (by omega)); omega
theorem u0d {l : List Int} {n : Nat} (hl : l.length = n * 2) : RG (kB l n) (kQ l n) := u1b (kV hl) (k17 (uL hl))
theorem IX.ly {a b out : List Int} {n m i j k : Nat} {u v : Int} (h : IX a b i j k out) (ha : a.length = n * 2) (hb : b.length = m * 2) (oa : iA (uZ a)) (ob : iA (uZ b)) (hi : i < n) (hj : j < m) (hu : u = max (ka1 a (i * 2) 0) (ka1 b (j * 2) 0)) (hv : v = min (ka1 a (i * 2 + 1) 0) (ka1 b (j * 2 + 1) 0)) (h1 : u ≤ v) (h2 : ka1 a (i * 2 + 1) 0 < ka1 b (j * 2 + 1) 0) : IX a b (i + 1) j (k + 1) (out ++ [u, v]) := by
  have h9 := (h.put ha hb oa ob hi hj hu hv (.inl ⟨h1, rfl⟩)).1 h2
  rw [if_pos h1] at h9; exact h9
theorem IX.ln {a b out : List Int} {n m i j k : Nat} (h : IX a b i j k out) (ha : a.length = n * 2) (hb : b.length = m * 2) (oa : iA (uZ a)) (ob : iA (uZ b)) (hi : i < n) (hj : j < m) (h1 : ¬ max (ka1 a (i * 2) 0) (ka1 b (j * 2) 0) ≤ min (ka1 a (i * 2 + 1) 0) (ka1 b (j * 2 + 1) 0)) (h2 : ka1 a (i * 2 + 1) 0 < ka1 b (j * 2 + 1) 0) : IX a b (i + 1) j k out := by
  have h9 := (h.put ha hb oa ob hi hj rfl rfl (.inr ⟨h1, rfl⟩)).1 h2
  rw [if_neg h1] at h9; exact h9
theorem IX.ry {a b out : List Int} {n m i j k : Nat} {u v : Int} (h : IX a b i j k out) (ha : a.length = n * 2) (hb : b.length = m * 2) (oa : iA (uZ a)) (ob : iA (uZ b)) (hi : i < n) (hj : j < m) (hu : u = max (ka1 a (i * 2) 0) (ka1 b (j * 2) 0)) (hv : v = min (ka1 a (i * 2 + 1) 0) (ka1 b (j * 2 + 1) 0)) (h1 : u ≤ v) (h2 : ¬ ka1 a (i * 2 + 1) 0 < ka1 b (j * 2 + 1) 0) : IX a b i (j + 1) (k + 1) (out ++ [u, v]) := by
  have h9 := (h.put ha hb oa ob hi hj hu hv (.inl ⟨h1, rfl⟩)).2 h2
  rw [if_pos h1] at h9; exact h9
theorem IX.rn {a b out : List Int} {n m i j k : Nat} (h : IX a b i j k out) (ha : a.length = n * 2) (hb : b.length = m * 2) (oa : iA (uZ a)) (ob : iA (uZ b)) (hi : i < n) (hj : j < m) (h1 : ¬ max (ka1 a (i * 2) 0) (ka1 b (j * 2) 0) ≤ min (ka1 a (i * 2 + 1) 0) (ka1 b (j * 2 + 1) 0)) (h2 : ¬ ka1 a (i * 2 + 1) 0 < ka1 b (j * 2 + 1) 0) : IX a b i (j + 1) k out := by
  have h9 := (h.put ha hb oa ob hi hj rfl rfl (.inr ⟨h1, rfl⟩)).2 h2
  rw [if_neg h1] at h9; exact h9
theorem dp1 {A : List Int} {i n : Nat} (h : A.length = n * 2) : dI .i64 (ka4 ((i + 1) * 2) A) = dI .i64 (ka3 ((n - i - 1) * 2) (ka4 2 (ka4 (i * 2) A))) := by
  rw [List.drop_drop, kb7 (by rw [kb0]; omega), show i * 2 + 2 = (i + 1) * 2 by omega]
def CJ (b : List Int) (u v : Int) (j : Nat) (f : Bool) : Prop := f = (ka3 j (uZ b)).any (ctE (u, v))
theorem CJ.zero (b : List Int) (u v : Int) : CJ b u v 0 false := rfl
theorem CJ.yes {b : List Int} {u v : Int} {j m : Nat} (h : CJ b u v j false) (hb : b.length = m * 2) (hj : j < m) (h1 : ka1 b (j * 2) 0 ≤ u ∧ v ≤ ka1 b (j * 2 + 1) 0) : CJ b u v (j + 1) true := by
  unfold CJ at *; rw [yK hb hj, kk6, ← h]
  show true = (decide _ || false)
  rw [decide_eq_true (show ka1 b (j * 2) 0 ≤ u ∧ v ≤ ka1 b (j * 2 + 1) 0 from h1)]; rfl
theorem CJ.no {b : List Int} {u v : Int} {j m : Nat} (h : CJ b u v j false) (hb : b.length = m * 2) (hj : j < m) (h1 : ¬ (ka1 b (j * 2) 0 ≤ u ∧ v ≤ ka1 b (j * 2 + 1) 0)) : CJ b u v (j + 1) false := by
  unfold CJ at *; rw [yK hb hj, kk6, ← h]
  show false = (decide _ || false)
  rw [decide_eq_false (show ¬ (ka1 b (j * 2) 0 ≤ u ∧ v ≤ ka1 b (j * 2 + 1) 0) from h1)]; rfl
theorem CJ.fin {b : List Int} {u v : Int} {j m : Nat} {f : Bool} (h : CJ b u v j f) (hb : b.length = m * 2) (hj : m ≤ j) : coB b u v = f := by
  unfold CJ at h; rw [kb7 (by rw [u3 hb]; exact hj)] at h; exact h.symm
theorem fJ {a b : Int} : 0 ≤ bG a b := by unfold bG; split <;> omega
theorem vB (x : Int) : IntKind.u64.wrap x = x % 18446744073709551616 := by simp [IntKind.wrap, IntKind.bits, IntKind.signed]
end Go.Proofs.YtcfmjpnffembpaaGreat
