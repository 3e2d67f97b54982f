/- Sets of integers. No statement is proved here. -/
import Derived.Test.YtdbjebdomdnbkaaZLBy
namespace Go.Proofs.Ytdbjebdomdnbkaa
open Go.ChangeShapes Go.WideShapes Go.ChangeAt Go.RowKit
open Bool renaming false_ne_true → ki1
open Int renaming le_refl → kg3
open List renaming any_append → kl4, append_assoc → kb8, append_nil → kd0, drop → ka7, drop_of_length_le → kj9, eq_nil_of_length_eq_zero → kc9, getD → ka0, getElem?_drop → ke1, getElem?_eq_getElem → ka9, length_append → ka3, length_cons → kb1, length_drop → kb2, length_nil → kb5, length_reverse → kc7, length_take → kb3, mem_cons_of_mem → kb7, mem_cons_self → kb0, mem_of_getElem? → kd6, mem_of_mem_take → kh2, reverse_cons → kf5, take → ka2, take_append_drop → kg4, take_left' → kl3, take_of_length_le → kc4
open Nat renaming eq_zero_or_pos → kk9, le_refl → kc8, lt_or_ge → kk1
set_option linter.unusedVariables false
set_option linter.unusedSimpArgs false
/-! sets of integers: spans as pairs -/
abbrev Sp := Int × Int
def jG (p : Sp) : Prop := 0 ≤ p.1 ∧ p.1 ≤ p.2 ∧ p.2 ≤ 2147483647
def mV : List Sp → Prop
  | [] => True
  | p :: r => jG p ∧ (∀ q ∈ r, p.2 + 1 < q.1) ∧ mV r
def eW (ps : List Sp) (x : Int) : Prop := ∃ p ∈ ps, p.1 ≤ x ∧ x ≤ p.2
theorem jP (x : Int) : ¬ eW [] x := fun ⟨p, h, _⟩ => by cases h
theorem uK {p : Sp} {r : List Sp} {x : Int} : eW (p :: r) x ↔ (p.1 ≤ x ∧ x ≤ p.2) ∨ eW r x := by
  constructor
  · rintro ⟨q, hq, h⟩
    rcases List.mem_cons.1 hq with rfl | hq
    · exact .inl h
    · exact .inr ⟨q, hq, h⟩
  · rintro (h | ⟨q, hq, h⟩)
    · exact ⟨p, kb0 .., h⟩
    · exact ⟨q, kb7 _ hq, h⟩
theorem k3q : ∀ {ps : List Sp}, mV ps → ∀ p ∈ ps, jG p
  | [], _, p, hp => by cases hp
  | q :: r, h, p, hp => by
    rcases List.mem_cons.1 hp with rfl | hp
    · exact h.1
    · exact k3q h.2.2 p hp
theorem iQ {p : Sp} {r : List Sp} (h : ∀ q ∈ r, p.2 + 1 < q.1) {x : Int} (hx : eW r x) : p.2 + 1 < x := by
  obtain ⟨q, hq, h1, _⟩ := hx
  have := h q hq; omega
theorem k3s : ∀ {a b : List Sp}, mV a → mV b → (∀ x, eW a x ↔ eW b x) → a = b
  | [], [], _, _, _ => rfl
  | [], q :: r, _, hb, h => absurd ((h q.1).2 (uK.2 (.inl ⟨kg3 _, hb.1.2.1⟩))) (jP _)
  | p :: r, [], ha, _, h => absurd ((h p.1).1 (uK.2 (.inl ⟨kg3 _, ha.1.2.1⟩))) (jP _)
  | p :: r, q :: s, ha, hb, h => by
    have m1 : eW (p :: r) p.1 := uK.2 (.inl ⟨kg3 _, ha.1.2.1⟩)
    have m2 : eW (q :: s) q.1 := uK.2 (.inl ⟨kg3 _, hb.1.2.1⟩)
    have v1 := ha.1; have v2 := hb.1
    unfold jG at v1 v2
    have e1 : p.1 = q.1 := by
      have n1 := uK.1 ((h _).1 m1)
      have n2 := uK.1 ((h _).2 m2)
      have g1 : eW s p.1 → q.2 + 1 < p.1 := iQ hb.2.1
      have g2 : eW r q.1 → p.2 + 1 < q.1 := iQ ha.2.1
      rcases n1 with n1 | n1
      · rcases n2 with n2 | n2
        · omega
        · have := g2 n2; omega
      · have := g1 n1
        rcases n2 with n2 | n2
        · omega
        · have := g2 n2; omega
    have no1 : ¬ eW (p :: r) (p.2 + 1) := fun hh => by
      rcases uK.1 hh with hh | hh
      · omega
      · have := iQ ha.2.1 hh; omega
    have no2 : ¬ eW (q :: s) (q.2 + 1) := fun hh => by
      rcases uK.1 hh with hh | hh
      · omega
      · have := iQ hb.2.1 hh; omega
    have e2 : p.2 = q.2 := by
      rcases Int.lt_trichotomy p.2 q.2 with hlt | heq | hgt
      · exact absurd ((h (p.2 + 1)).2 (uK.2 (.inl ⟨by omega, by omega⟩))) no1
      · exact heq
      · exact absurd ((h (q.2 + 1)).1 (uK.2 (.inl ⟨by omega, by omega⟩))) no2
    obtain ⟨a, b⟩ := p
    obtain ⟨c, d⟩ := q
    obtain rfl : a = c := e1
    obtain rfl : b = d := e2
    congr 1
    refine k3s ha.2.2 hb.2.2 fun x => ?_
    have hx := h x
    rw [uK, uK] at hx
    constructor
    · intro hr
      have := iQ ha.2.1 hr
      rcases hx.1 (.inr hr) with h9 | h9
      · exfalso; simp only at this h9; omega
      · exact h9
    · intro hr
      have := iQ hb.2.1 hr
      rcases hx.2 (.inr hr) with h9 | h9
      · exfalso; simp only at this h9; omega
      · exact h9
/-! spans that are joined: the last span first -/
def iP (o : List Sp) (x : Sp) : List Sp := match o with
  | [] => [x]
  | l :: r => if x.1 ≤ l.2 + 1 then (l.1, max l.2 x.2) :: r else x :: l :: r
def okR : List Sp → Prop
  | [] => True
  | p :: r => jG p ∧ (∀ q ∈ r, q.2 + 1 < p.1) ∧ okR r
theorem k08 : ∀ {o : List Sp} {r : List Sp}, okR o → mV r → (∀ p ∈ o, ∀ q ∈ r, p.2 + 1 < q.1) → mV (o.reverse ++ r)
  | [], r, _, h, _ => h
  | p :: o, r, ho, hr, h => by
    rw [kf5, kb8]
    refine k08 ho.2.2 ⟨ho.1, fun q hq => h p (kb0 ..) q hq, hr⟩ fun a ha b hb => ?_
    rcases List.mem_cons.1 hb with rfl | hb
    · exact ho.2.1 a ha
    · exact h a (kb7 _ ha) b hb
theorem u23 (o : List Sp) (x : Sp) : (iP o x).length ≤ o.length + 1 := by
  unfold iP
  cases o with
  | nil => exact kc8 _
  | cons l r => show (if _ then _ else _ : List Sp).length ≤ _; split <;> simp
theorem u5q {o : List Sp} {x : Sp} (h : okR o) (hx : jG x) (hl : ∀ l r, o = l :: r → l.1 ≤ x.1) : okR (iP o x) := by
  cases o with
  | nil => exact ⟨hx, fun q hq => (by cases hq), trivial⟩
  | cons l r =>
    have h1 := hl l r rfl
    have hv := h.1
    unfold jG at hv hx
    show okR (if _ then _ else _)
    split
    · refine ⟨⟨hv.1, ?_, ?_⟩, h.2.1, h.2.2⟩
      · show l.1 ≤ max l.2 x.2; omega
      · show max l.2 x.2 ≤ _; omega
    · refine ⟨hx, fun q hq => ?_, h⟩
      rcases List.mem_cons.1 hq with rfl | hq
      · omega
      · have := h.2.1 q hq; omega
theorem u5r {o : List Sp} {x : Sp} (h : okR o) (hx : jG x) (hl : ∀ l r, o = l :: r → l.1 ≤ x.1) (z : Int) : eW (iP o x) z ↔ eW o z ∨ (x.1 ≤ z ∧ z ≤ x.2) := by
  cases o with
  | nil => show eW [x] z ↔ _; rw [uK]; exact or_comm
  | cons l r =>
    have h1 := hl l r rfl
    have hv := h.1
    unfold jG at hv hx
    show eW (if _ then _ else _) z ↔ _
    split
    · rw [uK, uK]
      show (l.1 ≤ z ∧ z ≤ max l.2 x.2) ∨ _ ↔ _
      constructor
      · rintro (h9 | h9)
        · by_cases h8 : z ≤ l.2
          · exact .inl (.inl ⟨h9.1, h8⟩)
          · exact .inr ⟨by omega, by omega⟩
        · exact .inl (.inr h9)
      · rintro ((h9 | h9) | h9)
        · exact .inl ⟨h9.1, by omega⟩
        · exact .inr h9
        · exact .inl ⟨by omega, by omega⟩
    · rw [uK]; exact or_comm
theorem k7u {o : List Sp} {x : Sp} (hl : ∀ l r, o = l :: r → l.1 ≤ x.1) : ∀ l r, iP o x = l :: r → l.1 ≤ x.1 := by
  intro l r e
  cases o with
  | nil => have e : [x] = l :: r := e; cases e; exact kg3 _
  | cons a s =>
    have h1 := hl a s rfl
    have e : (if x.1 ≤ a.2 + 1 then (a.1, max a.2 x.2) :: s else x :: a :: s) = l :: r := e
    split at e
    · cases e; exact h1
    · cases e; exact kg3 _
def jnR (s : List Sp) : List Sp := s.foldl iP []
def srP (s : List Sp) : Prop := s.Pairwise fun a b => a.1 ≤ b.1
theorem k4b : ∀ (s o : List Sp), okR o → (∀ p ∈ s, jG p) → srP s → (∀ l r, o = l :: r → ∀ p ∈ s, l.1 ≤ p.1) → okR (s.foldl iP o) ∧ (∀ z, eW (s.foldl iP o) z ↔ eW o z ∨ eW s z) ∧ (s.foldl iP o).length ≤ o.length + s.length
  | [], o, h, _, _, _ => ⟨h, fun z => ⟨.inl, fun h => h.elim id fun h => absurd h (jP _)⟩, kc8 _⟩
  | x :: s, o, h, hv, hs, hl => by
    have hx := hv x (kb0 ..)
    have hl1 : ∀ l r, o = l :: r → l.1 ≤ x.1 := fun l r e => hl l r e x (kb0 ..)
    obtain ⟨h1, h2⟩ := List.pairwise_cons.1 hs
    obtain ⟨i1, i2, i3⟩ := k4b s (iP o x) (u5q h hx hl1) (fun p hp => hv p (kb7 _ hp)) h2 (fun l r e p hp => by have := k7u hl1 l r e; have := h1 p hp; omega)
    refine ⟨i1, fun z => ?_, ?_⟩
    · show eW (s.foldl iP (iP o x)) z ↔ _
      rw [i2 z, u5r h hx hl1 z, uK, or_assoc]
    · show (s.foldl iP (iP o x)).length ≤ _
      have := u23 o x
      simp only [kb1]; omega
def jnP (s : List Sp) : List Sp := (jnR s).reverse
theorem k4a {s : List Sp} (hv : ∀ p ∈ s, jG p) (hs : srP s) : mV (jnP s) ∧ (∀ z, eW (jnP s) z ↔ eW s z) ∧ (jnP s).length ≤ s.length := by
  obtain ⟨h1, h2, h3⟩ := k4b s [] trivial hv hs (fun l r e => by cases e)
  refine ⟨?_, fun z => ?_, ?_⟩
  · have := k08 (r := []) h1 trivial (fun _ _ q hq => by cases hq)
    rw [kd0] at this; exact this
  · have e : eW (jnP s) z ↔ eW (jnR s) z := by
      unfold eW jnP
      simp only [List.mem_reverse]
    rw [e]
    have := h2 z
    rw [show s.foldl iP [] = jnR s from rfl] at this
    rw [this]
    exact ⟨fun h => h.elim (fun h => absurd h (jP _)) id, .inr⟩
  · unfold jnP jnR; rw [kc7]
    have : (s.foldl iP []).length ≤ ([] : List Sp).length + s.length := h3
    rw [kb5, Nat.zero_add] at this; exact this
theorem tS {a b : List Sp} (h : a.Perm b) (z : Int) : eW a z ↔ eW b z := by
  unfold eW
  constructor
  · rintro ⟨p, hp, h9⟩; exact ⟨p, h.mem_iff.1 hp, h9⟩
  · rintro ⟨p, hp, h9⟩; exact ⟨p, h.mem_iff.2 hp, h9⟩
theorem k84 {a b : List Sp} (h : a.Perm b) (hv : ∀ p ∈ a, jG p) (ha : srP a) (hb : srP b) : jnP a = jnP b := by
  have h1 := k4a hv ha
  have h2 := k4a (s := b) (fun p hp => hv p (h.mem_iff.2 hp)) hb
  exact k3s h1.1 h2.1 fun z => (h1.2.1 z).trans ((tS h z).trans (h2.2.1 z).symm)
/-! intersections -/
def t2 (p q : Sp) : List Sp := if max p.1 q.1 ≤ min p.2 q.2 then [(max p.1 q.1, min p.2 q.2)] else []
def itR (p : Sp) (b : List Sp) : List Sp := b.flatMap (t2 p)
def jQ (a b : List Sp) : List Sp := a.flatMap fun p => itR p b
theorem t1 {p q : Sp} (h : p.2 < q.1 ∨ q.2 < p.1) : t2 p q = [] := by unfold t2; rw [if_neg (by omega)]
theorem tY {p : Sp} : ∀ {b : List Sp}, (∀ q ∈ b, p.2 < q.1 ∨ q.2 < p.1) → itR p b = []
  | [], _ => rfl
  | q :: b, h => by
    show t2 p q ++ itR p b = []
    rw [t1 (h q (kb0 ..)), tY fun r hr => h r (kb7 _ hr)]; rfl
theorem oD : ∀ a : List Sp, jQ a [] = []
  | [] => rfl
  | p :: a => by show itR p [] ++ jQ a [] = []; rw [oD a]; rfl
theorem k85 {x y : Sp} {a b : List Sp} (hb : mV (y :: b)) (h : x.2 < y.2) : jQ (x :: a) (y :: b) = t2 x y ++ jQ a (y :: b) := by
  show (t2 x y ++ itR x b) ++ _ = _
  rw [tY fun q hq => .inl (by have := hb.2.1 q hq; omega), kd0]; rfl
theorem tZ {y : Sp} {b : List Sp} : ∀ {a : List Sp}, (∀ p ∈ a, y.2 < p.1) → jQ a (y :: b) = jQ a b
  | [], _ => rfl
  | p :: a, h => by
    show (t2 p y ++ itR p b) ++ jQ a (y :: b) = itR p b ++ jQ a b
    rw [t1 (.inr (h p (kb0 ..))), tZ fun q hq => h q (kb7 _ hq)]; rfl
theorem k4c {x y : Sp} {a b : List Sp} (ha : mV (x :: a)) (h : ¬ x.2 < y.2) : jQ (x :: a) (y :: b) = t2 x y ++ jQ (x :: a) b := by
  show (t2 x y ++ itR x b) ++ jQ a (y :: b) = t2 x y ++ (itR x b ++ jQ a b)
  rw [tZ fun p hp => by have := ha.2.1 p hp; omega, kb8]
/-! inside -/
def ctE (p q : Sp) : Bool := decide (q.1 ≤ p.1 ∧ p.2 ≤ q.2)
/-! the nearest -/
def clP (n : Int) (p : Sp) : Int := max p.1 (min p.2 n)
def dsP (a b : Int) : Int := if b < a then a - b else b - a
def nrP (n : Int) : List Sp → Option Int → Option Int
  | [], o => o
  | p :: r, o => nrP n r (match o with
    | none => some (clP n p)
    | some v => if dsP (clP n p) n < dsP v n then some (clP n p) else some v)
/-! spans told as one list of numbers -/
def uO : List Int → List Sp
  | a :: b :: r => (a, b) :: uO r
  | _ => []
def fl : List Sp → List Int
  | [] => []
  | p :: r => p.1 :: p.2 :: fl r
theorem xC : ∀ s : List Sp, uO (fl s) = s
  | [] => rfl
  | p :: r => by show (p.1, p.2) :: uO (fl r) = p :: r; rw [xC r]
theorem fY : ∀ s : List Sp, (fl s).length = s.length * 2
  | [] => rfl
  | p :: r => by show (fl r).length + 1 + 1 = (r.length + 1) * 2; rw [fY r]; omega
theorem fZ : ∀ a b : List Sp, fl (a ++ b) = fl a ++ fl b
  | [], b => rfl
  | p :: a, b => by show p.1 :: p.2 :: fl (a ++ b) = p.1 :: p.2 :: (fl a ++ fl b); rw [fZ a b]
theorem xV : ∀ (n : Nat) (l : List Int), l.length = n * 2 → fl (uO l) = l
  | 0, [], _ => rfl
  | 0, _ :: _, h => by simp at h
  | n + 1, a :: b :: r, h => by
    show a :: b :: fl (uO r) = a :: b :: r
    rw [xV n r (by simp at h; omega)]
  | n + 1, [_], h => by simp at h; omega
  | n + 1, [], h => by simp at h
theorem uR {n : Nat} {l : List Int} (h : l.length = n * 2) : (uO l).length = n := by
  have h1 := fY (uO l)
  rw [xV n l h] at h1; omega
theorem jO {n : Nat} {a b : List Int} (h : a.length = n * 2) : uO (a ++ b) = uO a ++ uO b := by
  induction n generalizing a with
  | zero =>
    have : a = [] := kc9 (by omega)
    subst this; rfl
  | succ n ih =>
    match a, h with
    | x :: y :: r, h =>
      show (x, y) :: uO (r ++ b) = (x, y) :: (uO r ++ uO b)
      rw [ih (by simp at h; omega)]
    | [_], h => simp at h; omega
    | [], h => simp at h
theorem vS : ∀ (n : Nat) (l : List Int) (j : Nat), l.length = n * 2 → j < n → (uO l)[j]? = some (ka0 l (j * 2) 0, ka0 l (j * 2 + 1) 0)
  | n + 1, a :: b :: r, 0, _, _ => rfl
  | n + 1, a :: b :: r, j + 1, h, hj => by
    show (uO r)[j]? = _
    rw [vS n r j (by simp at h; omega) (by omega)]
    rw [show (j + 1) * 2 = j * 2 + 1 + 1 by omega]; rfl
  | n + 1, [_], _, h, _ => by simp at h; omega
  | n + 1, [], _, h, _ => by simp at h
theorem dA {n : Nat} {l : List Int} (h : l.length = n * 2) {p : Sp} : p ∈ uO l ↔ ∃ j, j < n ∧ p = (ka0 l (j * 2) 0, ka0 l (j * 2 + 1) 0) := by
  constructor
  · intro hp
    obtain ⟨j, hj, e⟩ := List.mem_iff_getElem.1 hp
    rw [uR h] at hj
    have := vS n l j h hj
    rw [ka9 (by rw [uR h]; exact hj), e] at this
    exact ⟨j, hj, Option.some.inj this⟩
  · rintro ⟨j, hj, rfl⟩
    exact kd6 (vS n l j h hj)
theorem k39 {n : Nat} {l : List Int} (h : l.length = n * 2) {k : Nat} (hk : k ≤ n) : uO (ka2 (k * 2) l) = ka2 k (uO l) := by
  have h1 := jO (n := k) (a := ka2 (k * 2) l) (b := ka7 (k * 2) l) (by rw [kb3]; omega)
  rw [kg4] at h1
  have h2 := uR (n := k) (l := ka2 (k * 2) l) (by rw [kb3]; omega)
  conv => rhs; rw [h1]
  exact (kl3 h2).symm
theorem k3a {n : Nat} {l : List Int} (h : l.length = n * 2) {k : Nat} (hk : k ≤ n) : uO (ka7 (k * 2) l) = ka7 k (uO l) := by
  have h1 := jO (n := k) (a := ka2 (k * 2) l) (b := ka7 (k * 2) l) (by rw [kb3]; omega)
  rw [kg4] at h1
  have h2 := uR (n := k) (l := ka2 (k * 2) l) (by rw [kb3]; omega)
  conv => rhs; rw [h1]
  exact (List.drop_left' h2).symm
theorem tC {n : Nat} {l : List Int} (h : l.length = n * 2) (a b : Int) : uO (l ++ [a, b]) = uO l ++ [(a, b)] := jO h
theorem aY {n : Nat} {l : List Int} (h : l.length = n * 2) {k : Nat} (hk : k < n) : ka7 k (uO l) = (ka0 l (k * 2) 0, ka0 l (k * 2 + 1) 0) :: ka7 (k + 1) (uO l) := by
  have hl := uR h
  rw [List.drop_eq_getElem_cons (by omega)]
  have := vS n l k h hk
  rw [ka9 (by omega)] at this
  rw [Option.some.inj this]
theorem aF {n : Nat} {l : List Int} (h : l.length = n * 2) {k : Nat} (hk : k < n) : ka2 (k + 1) (uO l) = ka2 k (uO l) ++ [(ka0 l (k * 2) 0, ka0 l (k * 2 + 1) 0)] := by
  rw [List.take_add_one, vS n l k h hk]; rfl
/-! valid sets -/
def vaE (l : List Int) (j : Nat) : Bool := decide (0 ≤ ka0 l (j * 2) 0 ∧ ka0 l (j * 2) 0 ≤ ka0 l (j * 2 + 1) 0 ∧ ka0 l (j * 2 + 1) 0 ≤ 2147483647 ∧ (j = 0 ∨ ka0 l ((j - 1) * 2 + 1) 0 + 1 < ka0 l (j * 2) 0))
def f6 (l : List Int) (n : Nat) : Bool := decide (n ≤ 64) && (List.range n).all (vaE l)
theorem d9 {l : List Int} {n : Nat} (h1 : n ≤ 64) (h : ∀ j, j < n → vaE l j = true) : f6 l n = true :=
  Bool.and_eq_true_iff.2 ⟨decide_eq_true h1, List.all_eq_true.2 fun j hj => h j (List.mem_range.1 hj)⟩
theorem fJ {l : List Int} {n : Nat} (h1 : ¬ n ≤ 64) : f6 l n = false := by unfold f6; rw [decide_eq_false h1]; rfl
theorem fI {l : List Int} {n k : Nat} (hk : k < n) (h : vaE l k = false) : f6 l n = false := by
  cases hb : f6 l n with
  | false => rfl
  | true =>
    have := List.all_eq_true.1 (Bool.and_eq_true_iff.1 hb).2 k (List.mem_range.2 hk)
    rw [h] at this; cases this
theorem k3r : ∀ (s : List Sp), (∀ (j : Nat) (p : Sp), s[j]? = some p → jG p) → (∀ (j : Nat) (p q : Sp), s[j]? = some p → s[j + 1]? = some q → p.2 + 1 < q.1) → mV s
  | [], _, _ => trivial
  | p :: r, h1, h2 => by
    have ih := k3r r (fun j q hq => h1 (j + 1) q hq) (fun j a b ha hb => h2 (j + 1) a b ha hb)
    refine ⟨h1 0 p rfl, ?_, ih⟩
    have hp := h1 0 p rfl
    match r, ih, h2 with
    | [], _, _ => intro q hq; cases hq
    | a :: r, ih, h2 =>
      have h3 := h2 0 p a rfl rfl
      have ha := ih.1
      unfold jG at ha
      intro q hq
      rcases List.mem_cons.1 hq with rfl | hq
      · exact h3
      · have := ih.2.1 q hq; omega
theorem k09 : ∀ (s : List Sp), mV s → ∀ (j : Nat) (p q : Sp), s[j]? = some p → s[j + 1]? = some q → p.2 + 1 < q.1
  | [], _, j, p, q, h, _ => by simp at h
  | a :: r, h, 0, p, q, hp, hq => by
    have hp : some a = some p := hp
    cases hp
    exact h.2.1 q (kd6 (show r[0]? = some q from hq))
  | a :: r, h, j + 1, p, q, hp, hq => k09 r h.2.2 j p q hp hq
theorem zU {l : List Int} {n : Nat} (hl : l.length = n * 2) : f6 l n = true ↔ n ≤ 64 ∧ mV (uO l) := by
  constructor
  · intro h
    have h1 := Bool.and_eq_true_iff.1 h
    have ha : ∀ j, j < n → vaE l j = true := fun j hj => List.all_eq_true.1 h1.2 j (List.mem_range.2 hj)
    refine ⟨of_decide_eq_true h1.1, k3r _ (fun j p hp => ?_) (fun j p q hp hq => ?_)⟩
    · have hj : j < n := by have := (List.getElem?_eq_some_iff.1 hp).1; rw [uR hl] at this; exact this
      rw [vS n l j hl hj] at hp
      cases hp
      have := of_decide_eq_true (ha j hj)
      exact ⟨this.1, this.2.1, this.2.2.1⟩
    · have hj : j + 1 < n := by have := (List.getElem?_eq_some_iff.1 hq).1; rw [uR hl] at this; exact this
      rw [vS n l j hl (by omega)] at hp
      rw [vS n l (j + 1) hl hj] at hq
      cases hp; cases hq
      have := (of_decide_eq_true (ha (j + 1) hj)).2.2.2
      rw [show j + 1 - 1 = j by omega] at this
      rcases this with h9 | h9
      · omega
      · exact h9
  · rintro ⟨h1, h2⟩
    refine d9 h1 fun j hj => decide_eq_true ?_
    have hv := k3q h2 _ (kd6 (vS n l j hl hj))
    refine ⟨hv.1, hv.2.1, hv.2.2, ?_⟩
    rcases kk9 j with h9 | h9
    · exact .inl h9
    · right
      have e := vS n l (j - 1) hl (by omega)
      have e2 := vS n l j hl hj
      rw [show j = j - 1 + 1 by omega] at e2
      have := k09 _ h2 (j - 1) _ _ e e2
      rw [show j - 1 + 1 = j by omega] at this
      exact this
def spS (l : List Int) (n : Nat) : List Int := if f6 l n = true then l else []
def spN (l : List Int) (n : Nat) : Nat := if f6 l n = true then n else 0
theorem u4o {l : List Int} {n : Nat} (h : f6 l n = true) : spS l n = l ∧ spN l n = n := ⟨if_pos h, if_pos h⟩
def RG (l : List Int) (n : Nat) : Prop := ∀ j, j < n → 0 ≤ ka0 l (j * 2) 0 ∧ ka0 l (j * 2) 0 ≤ ka0 l (j * 2 + 1) 0 ∧ ka0 l (j * 2 + 1) 0 ≤ 2147483647
theorem RG.v {l : List Int} {n : Nat} (hl : l.length = n * 2) (h : RG l n) : ∀ p ∈ uO l, jG p := fun p hp => by
  obtain ⟨j, hj, rfl⟩ := (dA hl).1 hp
  exact h j hj
theorem u0t {l : List Int} {n : Nat} (hl : l.length = n * 2) (h : ∀ p ∈ uO l, jG p) : RG l n := fun j hj => h _ ((dA hl).2 ⟨j, hj, rfl⟩)
def stP (s : List Sp) : List Sp := s.mergeSort fun a b => decide (a.1 ≤ b.1)
theorem eD (s : List Sp) : (stP s).Perm s := List.mergeSort_perm _ _
theorem k2w (s : List Sp) : srP (stP s) := by
  have h := List.pairwise_mergeSort (le := fun (x y : Sp) => decide (x.1 ≤ y.1)) (fun a b c h1 h2 => decide_eq_true (by have := of_decide_eq_true h1; have := of_decide_eq_true h2; omega)) (fun a b => by
    rw [Bool.or_eq_true]
    rcases Int.le_total a.1 b.1 with h | h
    · exact .inl (decide_eq_true h)
    · exact .inr (decide_eq_true h)) s
  exact h.imp fun h => of_decide_eq_true h
def mkP (s : List Sp) : List Sp := jnP (stP s)
theorem k3y {s : List Sp} (hv : ∀ p ∈ s, jG p) : mV (mkP s) ∧ (∀ z, eW (mkP s) z ↔ eW s z) ∧ (mkP s).length ≤ s.length := by
  obtain ⟨h1, h2, h3⟩ := k4a (s := stP s) (fun p hp => hv p ((eD s).mem_iff.1 hp)) (k2w s)
  exact ⟨h1, fun z => (h2 z).trans (tS (eD s) z), by rw [(eD s).length_eq] at h3; exact h3⟩
theorem k1j {s t : List Sp} (hv : ∀ p ∈ s, jG p) (h : t.Perm s) (ht : srP t) : jnP t = mkP s :=
  (k84 ((eD s).trans h.symm) (fun p hp => hv p ((eD s).mem_iff.1 hp)) (k2w s) ht).symm
structure SI (l : List Int) (i : Nat) (o : List Int) : Prop where
  len : o.length = i * 2
  perm : (uO o).Perm (ka2 i (uO l))
  sr : srP (uO o)
theorem SI.zero (l : List Int) : SI l 0 [] := ⟨rfl, List.Perm.refl _, List.Pairwise.nil⟩
theorem SI.rg {l o : List Int} {n i : Nat} (h : SI l i o) (hl : l.length = n * 2) (hi : i ≤ n) (hr : RG l n) : RG o i :=
  u0t h.len fun p hp => hr.v hl p (kh2 (h.perm.mem_iff.1 hp))
theorem pU {s : List Sp} (h : srP s) {i j : Nat} {p q : Sp} (hij : i ≤ j) (hp : s[i]? = some p) (hq : s[j]? = some q) : p.1 ≤ q.1 := by
  obtain ⟨h1, rfl⟩ := List.getElem?_eq_some_iff.1 hp
  obtain ⟨h2, rfl⟩ := List.getElem?_eq_some_iff.1 hq
  rcases kk1 i j with h9 | h9
  · exact List.pairwise_iff_getElem.1 h i j h1 h2 h9
  · have e : i = j := by omega
    subst e; exact kg3 _
theorem SI.step {l o q : List Int} {n i k : Nat} {a b : Int} (h : SI l i o) (hl : l.length = n * 2) (hi : i < n) (ha : a = ka0 l (i * 2) 0) (hb : b = ka0 l (i * 2 + 1) 0) (hk : k ≤ i) (h1 : ∀ j, k ≤ j → j < i → a < ka0 o (j * 2) 0) (h2 : k = 0 ∨ ka0 o ((k - 1) * 2) 0 ≤ a) (hq : q = ka2 (k * 2) o ++ [a, b] ++ ka7 (k * 2) o) : SI l (i + 1) q := by
  have e : uO q = ka2 k (uO o) ++ [(a, b)] ++ ka7 k (uO o) := by
    rw [hq, jO (n := k + 1) (by rw [ka3, kb3, h.len]; simp only [kb1, kb5]; omega), tC (n := k) (by rw [kb3, h.len]; omega), k39 h.len hk, k3a h.len hk]
  refine ⟨?_, ?_, ?_⟩
  · rw [hq]; simp only [ka3, kb3, kb2, kb1, kb5, h.len]; omega
  · rw [e, aF hl hi, ← ha, ← hb, kb8]
    refine (List.Perm.append_left _ List.perm_append_comm).trans ?_
    rw [← kb8, kg4]
    exact h.perm.append_right _
  · have hg : ∀ j, j < i → (uO o)[j]? = some (ka0 o (j * 2) 0, ka0 o (j * 2 + 1) 0) := fun j hj => vS i o j h.len hj
    rw [e, srP, kb8, List.pairwise_append]
    refine ⟨h.sr.sublist (List.take_sublist _ _), List.Pairwise.cons (fun x hx => ?_) (h.sr.sublist (List.drop_sublist _ _)), fun x hx y hy => ?_⟩
    · obtain ⟨j, hj, e2⟩ := List.mem_iff_getElem?.1 hx |>.elim fun j hj => (⟨j, (List.getElem?_eq_some_iff.1 hj).1, hj⟩ : ∃ j, j < (ka7 k (uO o)).length ∧ (ka7 k (uO o))[j]? = some x)
      rw [kb2, uR h.len] at hj
      rw [ke1, hg _ (by omega)] at e2
      cases e2
      have := h1 (k + j) (by omega) (by omega)
      show a ≤ _; omega
    · obtain ⟨j, hj⟩ := List.mem_iff_getElem?.1 hx
      have hj2 := (List.getElem?_eq_some_iff.1 hj).1
      rw [kb3, uR h.len] at hj2
      rw [List.getElem?_take, if_pos (by omega)] at hj
      have hxa : x.1 ≤ a := by
        rcases h2 with h2 | h2
        · omega
        · have := pU h.sr (show j ≤ k - 1 by omega) hj (hg (k - 1) (by omega))
          exact Int.le_trans this h2
      rcases List.mem_cons.1 (show y ∈ (a, b) :: ka7 k (uO o) from hy) with rfl | hy
      · exact hxa
      · obtain ⟨m, hm⟩ := List.mem_iff_getElem?.1 hy
        have hm2 := (List.getElem?_eq_some_iff.1 hm).1
        rw [kb2, uR h.len] at hm2
        rw [ke1, hg _ (by omega)] at hm
        cases hm
        have := h1 (k + m) (by omega) (by omega)
        show x.1 ≤ _; omega
theorem SI.all {l o : List Int} {n i : Nat} (h : SI l i o) (hl : l.length = n * 2) (hi : n ≤ i) : (uO o).Perm (uO l) := by
  have := h.perm
  rw [kc4 (by rw [uR hl]; exact hi)] at this
  exact this
def MG (o : List Int) (i : Nat) (k : Nat) (out : List Int) : Prop := out = fl ((ka2 i (uO o)).foldl iP []).reverse ∧ ((ka2 i (uO o)).foldl iP []).length = k
theorem MG.zero (o : List Int) : MG o 0 0 [] := ⟨rfl, rfl⟩
theorem MG.len {o out : List Int} {i k : Nat} (h : MG o i k out) : out.length = k * 2 := by rw [h.1, fY, kc7, h.2]
theorem u2g (r : List Sp) (l : Sp) (v : Int) : List.set (fl (r ++ [l])) (r.length * 2 + 1) v = fl (r ++ [(l.1, v)]) := by
  rw [fZ, fZ, ← fY r, List.set_append_right _ _ (by omega), show (fl r).length + 1 - (fl r).length = 1 by omega]; rfl
theorem k8f (r : List Sp) (l : Sp) : ka0 (fl (r ++ [l])) (r.length * 2 + 1) 0 = l.2 := by
  rw [fZ, List.getD_eq_getElem?_getD, ← fY r, List.getElem?_append_right (by omega), show (fl r).length + 1 - (fl r).length = 1 by omega]; rfl
theorem MG.last {o out : List Int} {i k : Nat} (h : MG o i k out) (hk : 1 ≤ k) : ∃ l r, (ka2 i (uO o)).foldl iP [] = l :: r ∧ out = fl (r.reverse ++ [l]) ∧ r.length = k - 1 ∧ ka0 out ((k - 1) * 2 + 1) 0 = l.2 := by
  obtain ⟨h1, h2⟩ := h
  cases e : (ka2 i (uO o)).foldl iP [] with
  | nil => rw [e] at h2; simp at h2; omega
  | cons l r =>
    rw [e] at h1 h2
    rw [kf5] at h1
    have h3 : r.length = k - 1 := by simp at h2; omega
    refine ⟨l, r, rfl, h1, h3, ?_⟩
    rw [h1, ← h3, ← (kc7 : r.reverse.length = r.length)]; exact k8f _ _
theorem MG.next {o : List Int} {n i : Nat} (hl : o.length = n * 2) (hi : i < n) : (ka2 (i + 1) (uO o)).foldl iP [] = iP ((ka2 i (uO o)).foldl iP []) (ka0 o (i * 2) 0, ka0 o (i * 2 + 1) 0) := by
  rw [aF hl hi, List.foldl_append]; rfl
theorem MG.new {o out q : List Int} {n i k : Nat} {a b : Int} (h : MG o i k out) (hl : o.length = n * 2) (hi : i < n) (ha : a = ka0 o (i * 2) 0) (hb : b = ka0 o (i * 2 + 1) 0) (h2 : k = 0 ∨ ka0 out ((k - 1) * 2 + 1) 0 + 1 < a) (hq : q = out ++ [a, b]) : MG o (i + 1) (k + 1) q := by
  unfold MG
  rw [MG.next hl hi, ← ha, ← hb, hq]
  rcases kk9 k with h0 | h0
  · have h3 := h.2
    rw [h0] at h3
    have e := kc9 h3
    rw [h.1, e]; subst h0; exact ⟨rfl, rfl⟩
  · obtain ⟨l, r, e, e1, e2, e3⟩ := h.last h0
    rw [e]
    have h4 : l.2 + 1 < a := by
      rcases h2 with h2 | h2
      · omega
      · rw [e3] at h2; exact h2
    have e5 : iP (l :: r) (a, b) = (a, b) :: l :: r := by
      show (if a ≤ l.2 + 1 then _ else _) = _
      rw [if_neg (by omega)]
    rw [e5, e1]
    refine ⟨?_, by simp only [kb1]; omega⟩
    rw [kf5, kf5, fZ (r.reverse ++ [l])]; rfl
theorem MG.join {o out q : List Int} {n i k : Nat} {a b v : Int} (h : MG o i k out) (hl : o.length = n * 2) (hi : i < n) (ha : a = ka0 o (i * 2) 0) (hb : b = ka0 o (i * 2 + 1) 0) (hk : 1 ≤ k) (h2 : a ≤ ka0 out ((k - 1) * 2 + 1) 0 + 1) (hv : v = max (ka0 out ((k - 1) * 2 + 1) 0) b) (hq : q = List.set out ((k - 1) * 2 + 1) v) : MG o (i + 1) k q := by
  unfold MG
  rw [MG.next hl hi, ← ha, ← hb, hq]
  obtain ⟨l, r, e, e1, e2, e3⟩ := h.last hk
  rw [e]
  rw [e3] at h2 hv
  have e5 : iP (l :: r) (a, b) = (l.1, max l.2 b) :: r := by
    show (if a ≤ l.2 + 1 then _ else _) = _
    rw [if_pos h2]
  rw [e5, e1, ← e2]
  refine ⟨?_, by simp only [kb1]; omega⟩
  rw [← (kc7 : r.reverse.length = r.length), u2g, kf5, hv]
theorem MG.fin {o out : List Int} {n i k : Nat} (h : MG o i k out) (hl : o.length = n * 2) (hi : n ≤ i) : out = fl (jnP (uO o)) ∧ (jnP (uO o)).length = k := by
  unfold MG at h
  rw [kc4 (by rw [uR hl]; exact hi)] at h
  refine ⟨h.1, ?_⟩
  unfold jnP jnR; rw [kc7]; exact h.2
theorem u5p : ∀ (s o : List Sp), (∀ p ∈ o, jG p) → (∀ p ∈ s, jG p) → ∀ p ∈ s.foldl iP o, 0 ≤ p.1 ∧ 0 ≤ p.2 ∧ p.2 ≤ 2147483647
  | [], o, h, _, p, hp => by have := h p hp; unfold jG at this; omega
  | x :: s, o, h, hs, p, hp => by
    refine u5p s (iP o x) (fun q hq => ?_) (fun q hq => hs q (kb7 _ hq)) p hp
    have hx := hs x (kb0 ..)
    cases o with
    | nil => rw [List.mem_singleton.1 (show q ∈ [x] from hq)]; exact hx
    | cons l r =>
      have hl := h l (kb0 ..)
      have hq : q ∈ (if x.1 ≤ l.2 + 1 then (l.1, max l.2 x.2) :: r else x :: l :: r) := hq
      unfold jG at hx hl
      split at hq
      · rcases List.mem_cons.1 hq with rfl | hq
        · exact ⟨hl.1, by show l.1 ≤ max l.2 x.2; omega, by show max l.2 x.2 ≤ _; omega⟩
        · exact h q (kb7 _ hq)
      · rcases List.mem_cons.1 hq with rfl | hq
        · exact hx
        · exact h q hq
theorem MG.hi {o out : List Int} {n i k : Nat} (h : MG o i k out) (hl : o.length = n * 2) (hr : RG o n) (hk : 1 ≤ k) : 0 ≤ ka0 out ((k - 1) * 2 + 1) 0 ∧ ka0 out ((k - 1) * 2 + 1) 0 ≤ 2147483647 := by
  obtain ⟨l, r, e, _, _, e3⟩ := h.last hk
  rw [e3]
  have := u5p (ka2 i (uO o)) [] (fun _ h => (by cases h)) (fun p hp => hr.v hl p (kh2 hp)) l (by rw [e]; exact kb0 ..)
  exact ⟨this.2.1, this.2.2⟩
/-! the functions on lists -/
def rgE (l : List Int) (j : Nat) : Bool := decide (0 ≤ ka0 l (j * 2) 0 ∧ ka0 l (j * 2) 0 ≤ ka0 l (j * 2 + 1) 0 ∧ ka0 l (j * 2 + 1) 0 ≤ 2147483647)
def rgB (l : List Int) (n : Nat) : Bool := (List.range n).all (rgE l)
theorem u4t {l : List Int} {n : Nat} (h : ∀ j, j < n → rgE l j = true) : rgB l n = true := List.all_eq_true.2 fun j hj => h j (List.mem_range.1 hj)
theorem u1g {l : List Int} {n k : Nat} (hk : k < n) (h : rgE l k = false) : rgB l n = false := by
  cases hb : rgB l n with
  | false => rfl
  | true => have := List.all_eq_true.1 hb k (List.mem_range.2 hk); rw [h] at this; cases this
theorem lS {l : List Int} {n : Nat} : rgB l n = true ↔ RG l n := ⟨fun h j hj => of_decide_eq_true (List.all_eq_true.1 h j (List.mem_range.2 hj)), fun h => u4t fun j hj => decide_eq_true (h j hj)⟩
def sU (l : List Int) : List Int := fl (mkP (uO l))
def l9 (l : List Int) : Nat := (mkP (uO l)).length
theorem xO (l : List Int) : (sU l).length = l9 l * 2 := fY _
theorem u05 {l : List Int} {n : Nat} (hl : l.length = n * 2) (hr : RG l n) : l9 l ≤ n := by
  have := (k3y (hr.v hl)).2.2
  rw [uR hl] at this; exact this
theorem u27 {l o out : List Int} {n k : Nat} (hl : l.length = n * 2) (hr : RG l n) (ho : o.length = n * 2) (hp : (uO o).Perm (uO l)) (hs : srP (uO o)) (h : MG o n k out) : out = sU l ∧ l9 l = k := by
  obtain ⟨h1, h2⟩ := h.fin ho (kc8 _)
  rw [k1j (hr.v hl) hp hs] at h1 h2
  exact ⟨h1, h2⟩
def nB (l : List Int) (n : Nat) : Int := if rgB l n = true then (if l9 l ≤ 64 then 0 else 3) else 2
def dR (l : List Int) (n : Nat) : List Int := if rgB l n = true ∧ l9 l ≤ 64 then sU l else []
def vC (l : List Int) (n : Nat) : Nat := if rgB l n = true ∧ l9 l ≤ 64 then l9 l else 0
theorem xN {l : List Int} {n : Nat} (h : rgB l n = false) : nB l n = 2 ∧ dR l n = [] ∧ vC l n = 0 := by
  unfold nB dR vC; rw [h]
  exact ⟨if_neg ki1, if_neg fun h => absurd h.1 ki1, if_neg fun h => absurd h.1 ki1⟩
theorem u21 {l : List Int} {n : Nat} (h : rgB l n = true) (h2 : 64 < l9 l) : nB l n = 3 ∧ dR l n = [] ∧ vC l n = 0 := by
  unfold nB dR vC
  rw [if_pos h]
  exact ⟨if_neg (by omega), if_neg fun h => by omega, if_neg fun h => by omega⟩
theorem k0g {l : List Int} {n : Nat} (h : rgB l n = true) (h2 : l9 l ≤ 64) : nB l n = 0 ∧ dR l n = sU l ∧ vC l n = l9 l := by
  unfold nB dR vC
  rw [if_pos h]
  exact ⟨if_pos h2, if_pos ⟨h, h2⟩, if_pos ⟨h, h2⟩⟩
theorem gL (l : List Int) (n : Nat) : (dR l n).length = vC l n * 2 := by
  unfold dR vC; split
  · exact xO l
  · rfl
theorem l6 (l : List Int) (n : Nat) : (0 ≤ nB l n ∧ nB l n ≤ 3) ∧ vC l n ≤ 64 := by
  constructor
  · unfold nB; (repeat' split) <;> omega
  · unfold vC; split <;> omega
theorem k3z {l : List Int} {n : Nat} (hl : l.length = n * 2) : mV (uO (dR l n)) := by
  unfold dR; split
  · rename_i h; unfold sU; rw [xC]; exact (k3y ((lS.1 h.1).v hl)).1
  · trivial
theorem u22 {l : List Int} {n : Nat} (hl : l.length = n * 2) : f6 (dR l n) (vC l n) = true := (zU (gL l n)).2 ⟨(l6 l n).2, k3z hl⟩
/-! inside -/
def coB (b : List Int) (p q : Int) : Bool := (uO b).any (ctE (p, q))
/-! the nearest -/
def NR (n : Int) (l : List Int) (i : Nat) (b : Int) (f : Bool) : Prop := nrP n (ka2 i (uO l)) none = (if f = true then some b else none) ∧ (f = false → b = 0)
theorem NR.zero (n : Int) (l : List Int) : NR n l 0 0 false := ⟨rfl, fun _ => rfl⟩
def neV (n : Int) (l : List Int) : Int := (nrP n (uO l) none).getD 0
def nrF (n : Int) (l : List Int) : Bool := (nrP n (uO l) none).isSome
theorem NR.fin {n : Int} {l : List Int} {i m : Nat} {b : Int} {f : Bool} (h : NR n l i b f) (hl : l.length = m * 2) (hi : m ≤ i) : neV n l = b ∧ nrF n l = f := by
  have h1 := h.1
  rw [kc4 (by rw [uR hl]; exact hi)] at h1
  unfold neV nrF
  rw [h1]
  cases f with
  | true => exact ⟨rfl, rfl⟩
  | false => exact ⟨(h.2 rfl).symm, rfl⟩
/-! intersections -/
def isS (a b : List Int) : List Int := fl (ka2 64 (jQ (uO a) (uO b)))
def isN (a b : List Int) : Nat := (ka2 64 (jQ (uO a) (uO b))).length
structure IX (a b : List Int) (i j k : Nat) (out : List Int) : Prop where
  ex : ∃ q, out = fl q ∧ q.length = k ∧ q ++ jQ (ka7 i (uO a)) (ka7 j (uO b)) = jQ (uO a) (uO b)
theorem IX.zero (a b : List Int) : IX a b 0 0 0 [] := ⟨[], rfl, rfl, rfl⟩
theorem IX.len {a b out : List Int} {i j k : Nat} (h : IX a b i j k out) : out.length = k * 2 := by
  obtain ⟨q, rfl, rfl, _⟩ := h; exact fY q
theorem l1 : ∀ (k : Nat) {s : List Sp}, mV s → mV (ka7 k s)
  | 0, _, h => h
  | k + 1, [], _ => trivial
  | k + 1, p :: s, h => l1 k h.2.2
theorem IX.put {a b out o : List Int} {n m i j k : Nat} {u v : Int} (h : IX a b i j k out) (ha : a.length = n * 2) (hb : b.length = m * 2) (oa : mV (uO a)) (ob : mV (uO b)) (hi : i < n) (hj : j < m) (hu : u = max (ka0 a (i * 2) 0) (ka0 b (j * 2) 0)) (hv : v = min (ka0 a (i * 2 + 1) 0) (ka0 b (j * 2 + 1) 0)) (ho : (u ≤ v ∧ o = out ++ [u, v]) ∨ (¬ u ≤ v ∧ o = out)) :
    (ka0 a (i * 2 + 1) 0 < ka0 b (j * 2 + 1) 0 → IX a b (i + 1) j (if u ≤ v then k + 1 else k) o) ∧ (¬ ka0 a (i * 2 + 1) 0 < ka0 b (j * 2 + 1) 0 → IX a b i (j + 1) (if u ≤ v then k + 1 else k) o) := by
  obtain ⟨q, e1, e2, e3⟩ := h
  rw [aY ha hi, aY hb hj] at e3
  have oa2 := l1 i oa
  have ob2 := l1 j ob
  rw [aY ha hi] at oa2
  rw [aY hb hj] at ob2
  have hE : t2 (ka0 a (i * 2) 0, ka0 a (i * 2 + 1) 0) (ka0 b (j * 2) 0, ka0 b (j * 2 + 1) 0) = if u ≤ v then [(u, v)] else [] := by unfold t2; rw [hu, hv]
  have hq : o = fl (q ++ (if u ≤ v then [(u, v)] else [])) ∧ (q ++ (if u ≤ v then [(u, v)] else [])).length = if u ≤ v then k + 1 else k := by
    rcases ho with ⟨h1, h2⟩ | ⟨h1, h2⟩
    · rw [if_pos h1, if_pos h1, h2, e1, fZ, ka3, e2]; exact ⟨rfl, rfl⟩
    · rw [if_neg h1, if_neg h1, h2, e1, kd0]; exact ⟨rfl, e2⟩
  constructor
  · intro hlt
    rw [k85 ob2 hlt, hE, ← aY hb hj, ← kb8] at e3
    exact ⟨_, hq.1, hq.2, e3⟩
  · intro hlt
    rw [k4c oa2 hlt, hE, ← aY ha hi, ← kb8] at e3
    exact ⟨_, hq.1, hq.2, e3⟩
theorem IX.fin {a b out : List Int} {n m i j k : Nat} (h : IX a b i j k out) (ha : a.length = n * 2) (hb : b.length = m * 2) (hk : k ≤ 64) (hf : n ≤ i ∨ m ≤ j ∨ k = 64) : out = isS a b ∧ isN a b = k := by
  obtain ⟨q, e1, e2, e3⟩ := h
  have e4 : ka2 64 (jQ (uO a) (uO b)) = q := by
    rw [← e3]
    rcases kk1 k 64 with h9 | h9
    · have e5 : jQ (ka7 i (uO a)) (ka7 j (uO b)) = [] := by
        rcases hf with hf | hf | hf
        · rw [kj9 (by rw [uR ha]; exact hf)]; rfl
        · rw [show ka7 j (uO b) = [] from kj9 (by rw [uR hb]; exact hf)]; exact oD _
        · omega
      rw [e5, kd0, kc4 (by omega)]
    · exact kl3 (by omega)
  unfold isS isN
  rw [e4]; exact ⟨e1, e2⟩
def AL (a b : List Int) (i k : Nat) (out : List Int) : Prop := out = fl (jQ (ka2 i (uO a)) (uO b)) ∧ (jQ (ka2 i (uO a)) (uO b)).length = k
def AJ (a b : List Int) (i j k : Nat) (out : List Int) : Prop := out = fl (jQ (ka2 i (uO a)) (uO b) ++ itR (ka0 a (i * 2) 0, ka0 a (i * 2 + 1) 0) (ka2 j (uO b))) ∧ (jQ (ka2 i (uO a)) (uO b) ++ itR (ka0 a (i * 2) 0, ka0 a (i * 2 + 1) 0) (ka2 j (uO b))).length = k
theorem AL.zero (a b : List Int) : AL a b 0 0 [] := ⟨rfl, rfl⟩
theorem tX (p : Sp) (s : List Sp) (q : Sp) : itR p (s ++ [q]) = itR p s ++ t2 p q := by unfold itR; rw [List.flatMap_append]; simp
theorem AJ.y {a b out o : List Int} {m i j k : Nat} {u v : Int} (h : AJ a b i j k out) (hb : b.length = m * 2) (hj : j < m) (hu : u = max (ka0 a (i * 2) 0) (ka0 b (j * 2) 0)) (hv : v = min (ka0 a (i * 2 + 1) 0) (ka0 b (j * 2 + 1) 0)) (h1 : u ≤ v) (ho : o = out ++ [u, v]) : AJ a b i (j + 1) (k + 1) o := by
  have hE : t2 (ka0 a (i * 2) 0, ka0 a (i * 2 + 1) 0) (ka0 b (j * 2) 0, ka0 b (j * 2 + 1) 0) = [(u, v)] := by
    unfold t2; rw [← hu, ← hv, if_pos h1]
  unfold AJ
  rw [aF hb hj, tX, hE, ← kb8, fZ, ka3, ← h.1, h.2, ho]; exact ⟨rfl, rfl⟩
theorem AJ.n {a b out : List Int} {m i j k : Nat} (h : AJ a b i j k out) (hb : b.length = m * 2) (hj : j < m) (h1 : ¬ max (ka0 a (i * 2) 0) (ka0 b (j * 2) 0) ≤ min (ka0 a (i * 2 + 1) 0) (ka0 b (j * 2 + 1) 0)) : AJ a b i (j + 1) k out := by
  have hE : t2 (ka0 a (i * 2) 0, ka0 a (i * 2 + 1) 0) (ka0 b (j * 2) 0, ka0 b (j * 2 + 1) 0) = [] := by
    unfold t2; rw [if_neg h1]
  unfold AJ
  rw [aF hb hj, tX, hE, kd0]; exact h
theorem AL.fin {a b out : List Int} {n i k : Nat} (h : AL a b i k out) (ha : a.length = n * 2) (hi : n ≤ i) : out = fl (jQ (uO a) (uO b)) ∧ (jQ (uO a) (uO b)).length = k := by
  unfold AL at h
  rw [kc4 (by rw [uR ha]; exact hi)] at h; exact h
theorem k4g {o : List Int} {k n : Nat} {p : Int} (h : ∀ j, k ≤ j → j < n → p < ka0 o (j * 2) 0) (h1 : p < ka0 o ((k - 1) * 2) 0) (hk : 1 ≤ k) : ∀ j, k - 1 ≤ j → j < n → p < ka0 o (j * 2) 0 := fun j hj hn => by
  rcases kk1 j k with h7 | h7
  · rw [show j = k - 1 by omega]; exact h1
  · exact h j h7 hn
theorem gC {l : List Int} {k : Nat} (ha : ∀ j, j < k → vaE l j = true) (h : 1 ≤ k) : 0 ≤ ka0 l ((k - 1) * 2 + 1) 0 ∧ ka0 l ((k - 1) * 2 + 1) 0 ≤ 2147483647 := by
  have := of_decide_eq_true (ha (k - 1) (by omega)); omega
theorem IX.rn {a b out : List Int} {n m i j k : Nat} (h : IX a b i j k out) (ha : a.length = n * 2) (hb : b.length = m * 2) (oa : mV (uO a)) (ob : mV (uO b)) (hi : i < n) (hj : j < m) (h1 : ¬ max (ka0 a (i * 2) 0) (ka0 b (j * 2) 0) ≤ min (ka0 a (i * 2 + 1) 0) (ka0 b (j * 2 + 1) 0)) (h2 : ¬ ka0 a (i * 2 + 1) 0 < ka0 b (j * 2 + 1) 0) : IX a b i (j + 1) k out := by
  have h9 := (h.put ha hb oa ob hi hj rfl rfl (.inr ⟨h1, rfl⟩)).2 h2
  rw [if_neg h1] at h9; exact h9
def CJ (b : List Int) (u v : Int) (j : Nat) (f : Bool) : Prop := f = (ka2 j (uO b)).any (ctE (u, v))
theorem CJ.zero (b : List Int) (u v : Int) : CJ b u v 0 false := rfl
theorem CJ.yes {b : List Int} {u v : Int} {j m : Nat} (h : CJ b u v j false) (hb : b.length = m * 2) (hj : j < m) (h1 : ka0 b (j * 2) 0 ≤ u ∧ v ≤ ka0 b (j * 2 + 1) 0) : CJ b u v (j + 1) true := by
  unfold CJ at *; rw [aF hb hj, kl4, ← h]
  show true = (decide _ || false)
  rw [decide_eq_true (show ka0 b (j * 2) 0 ≤ u ∧ v ≤ ka0 b (j * 2 + 1) 0 from h1)]; rfl
theorem CJ.no {b : List Int} {u v : Int} {j m : Nat} (h : CJ b u v j false) (hb : b.length = m * 2) (hj : j < m) (h1 : ¬ (ka0 b (j * 2) 0 ≤ u ∧ v ≤ ka0 b (j * 2 + 1) 0)) : CJ b u v (j + 1) false := by
  unfold CJ at *; rw [aF hb hj, kl4, ← h]
  show false = (decide _ || false)
  rw [decide_eq_false (show ¬ (ka0 b (j * 2) 0 ≤ u ∧ v ≤ ka0 b (j * 2 + 1) 0) from h1)]; rfl
theorem CJ.fin {b : List Int} {u v : Int} {j m : Nat} {f : Bool} (h : CJ b u v j f) (hb : b.length = m * 2) (hj : m ≤ j) : coB b u v = f := by
  unfold CJ at h; rw [kc4 (by rw [uR hb]; exact hj)] at h; exact h.symm
end Go.Proofs.Ytdbjebdomdnbkaa
