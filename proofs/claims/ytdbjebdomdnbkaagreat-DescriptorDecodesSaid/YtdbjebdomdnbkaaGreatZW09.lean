/- Sets of integers. No statement is proved here. -/
import Derived.Test.YtdbjebdomdnbkaaGreatZLBy
namespace Go.Proofs.YtdbjebdomdnbkaaGreat
open Go.ChangeShapes Go.WideShapes Go.ChangeAt Go.RowKit
open Bool renaming false_ne_true → kh8
open Int renaming le_refl → kf8
open List renaming any_append → kl5, append_assoc → kc2, append_nil → kd1, drop → ka5, drop_of_length_le → kj9, eq_nil_of_length_eq_zero → kc9, getD → ka0, getElem?_drop → ke1, getElem?_eq_getElem → ka9, length_append → ka4, length_cons → kb3, length_drop → kb9, length_nil → kb6, length_reverse → kc6, length_take → kb4, mem_cons_of_mem → kb2, mem_cons_self → kb1, mem_of_getElem? → kd6, mem_of_mem_take → kg8, reverse_cons → kf3, take → ka2, take_append_drop → kf9, take_left' → kl4, take_of_length_le → kc3
open Nat renaming eq_zero_or_pos → kl0, le_refl → kc7, lt_or_ge → kk1
set_option linter.unusedVariables false
set_option linter.unusedSimpArgs false
/-! sets of integers: spans as pairs -/
abbrev Sp := Int × Int
def iS (p : Sp) : Prop := 0 ≤ p.1 ∧ p.1 ≤ p.2 ∧ p.2 ≤ 2147483647
def l0 : List Sp → Prop
  | [] => True
  | p :: r => iS p ∧ (∀ q ∈ r, p.2 + 1 < q.1) ∧ l0 r
def eD (ps : List Sp) (x : Int) : Prop := ∃ p ∈ ps, p.1 ≤ x ∧ x ≤ p.2
theorem i6 (x : Int) : ¬ eD [] x := fun ⟨p, h, _⟩ => by cases h
theorem uR {p : Sp} {r : List Sp} {x : Int} : eD (p :: r) x ↔ (p.1 ≤ x ∧ x ≤ p.2) ∨ eD r x := by
  constructor
  · rintro ⟨q, hq, h⟩
    rcases List.mem_cons.1 hq with rfl | hq
    · exact .inl h
    · exact .inr ⟨q, hq, h⟩
  · rintro (h | ⟨q, hq, h⟩)
    · exact ⟨p, kb1 .., h⟩
    · exact ⟨q, kb2 _ hq, h⟩
theorem k3a : ∀ {ps : List Sp}, l0 ps → ∀ p ∈ ps, iS p
  | [], _, p, hp => by cases hp
  | q :: r, h, p, hp => by
    rcases List.mem_cons.1 hp with rfl | hp
    · exact h.1
    · exact k3a h.2.2 p hp
theorem hC {p : Sp} {r : List Sp} (h : ∀ q ∈ r, p.2 + 1 < q.1) {x : Int} (hx : eD r x) : p.2 + 1 < x := by
  obtain ⟨q, hq, h1, _⟩ := hx
  have := h q hq; omega
theorem k3c : ∀ {a b : List Sp}, l0 a → l0 b → (∀ x, eD a x ↔ eD b x) → a = b
  | [], [], _, _, _ => rfl
  | [], q :: r, _, hb, h => absurd ((h q.1).2 (uR.2 (.inl ⟨kf8 _, hb.1.2.1⟩))) (i6 _)
  | p :: r, [], ha, _, h => absurd ((h p.1).1 (uR.2 (.inl ⟨kf8 _, ha.1.2.1⟩))) (i6 _)
  | p :: r, q :: s, ha, hb, h => by
    have m1 : eD (p :: r) p.1 := uR.2 (.inl ⟨kf8 _, ha.1.2.1⟩)
    have m2 : eD (q :: s) q.1 := uR.2 (.inl ⟨kf8 _, hb.1.2.1⟩)
    have v1 := ha.1; have v2 := hb.1
    unfold iS at v1 v2
    have e1 : p.1 = q.1 := by
      have n1 := uR.1 ((h _).1 m1)
      have n2 := uR.1 ((h _).2 m2)
      have g1 : eD s p.1 → q.2 + 1 < p.1 := hC hb.2.1
      have g2 : eD r q.1 → p.2 + 1 < q.1 := hC ha.2.1
      rcases n1 with n1 | n1
      · rcases n2 with n2 | n2
        · omega
        · have := g2 n2; omega
      · have := g1 n1
        rcases n2 with n2 | n2
        · omega
        · have := g2 n2; omega
    have no1 : ¬ eD (p :: r) (p.2 + 1) := fun hh => by
      rcases uR.1 hh with hh | hh
      · omega
      · have := hC ha.2.1 hh; omega
    have no2 : ¬ eD (q :: s) (q.2 + 1) := fun hh => by
      rcases uR.1 hh with hh | hh
      · omega
      · have := hC hb.2.1 hh; omega
    have e2 : p.2 = q.2 := by
      rcases Int.lt_trichotomy p.2 q.2 with hlt | heq | hgt
      · exact absurd ((h (p.2 + 1)).2 (uR.2 (.inl ⟨by omega, by omega⟩))) no1
      · exact heq
      · exact absurd ((h (q.2 + 1)).1 (uR.2 (.inl ⟨by omega, by omega⟩))) no2
    obtain ⟨a, b⟩ := p
    obtain ⟨c, d⟩ := q
    obtain rfl : a = c := e1
    obtain rfl : b = d := e2
    congr 1
    refine k3c ha.2.2 hb.2.2 fun x => ?_
    have hx := h x
    rw [uR, uR] at hx
    constructor
    · intro hr
      have := hC ha.2.1 hr
      rcases hx.1 (.inr hr) with h9 | h9
      · exfalso; simp only at this h9; omega
      · exact h9
    · intro hr
      have := hC hb.2.1 hr
      rcases hx.2 (.inr hr) with h9 | h9
      · exfalso; simp only at this h9; omega
      · exact h9
/-! spans that are joined: the last span first -/
def g9 (o : List Sp) (x : Sp) : List Sp := match o with
  | [] => [x]
  | l :: r => if x.1 ≤ l.2 + 1 then (l.1, max l.2 x.2) :: r else x :: l :: r
def okR : List Sp → Prop
  | [] => True
  | p :: r => iS p ∧ (∀ q ∈ r, q.2 + 1 < p.1) ∧ okR r
theorem z5 : ∀ {o : List Sp} {r : List Sp}, okR o → l0 r → (∀ p ∈ o, ∀ q ∈ r, p.2 + 1 < q.1) → l0 (o.reverse ++ r)
  | [], r, _, h, _ => h
  | p :: o, r, ho, hr, h => by
    rw [kf3, kc2]
    refine z5 ho.2.2 ⟨ho.1, fun q hq => h p (kb1 ..) q hq, hr⟩ fun a ha b hb => ?_
    rcases List.mem_cons.1 hb with rfl | hb
    · exact ho.2.1 a ha
    · exact h a (kb2 _ ha) b hb
theorem u2l (o : List Sp) (x : Sp) : (g9 o x).length ≤ o.length + 1 := by
  unfold g9
  cases o with
  | nil => exact kc7 _
  | cons l r => show (if _ then _ else _ : List Sp).length ≤ _; split <;> simp
theorem u65 {o : List Sp} {x : Sp} (h : okR o) (hx : iS x) (hl : ∀ l r, o = l :: r → l.1 ≤ x.1) : okR (g9 o x) := by
  cases o with
  | nil => exact ⟨hx, fun q hq => (by cases hq), trivial⟩
  | cons l r =>
    have h1 := hl l r rfl
    have hv := h.1
    unfold iS at hv hx
    show okR (if _ then _ else _)
    split
    · refine ⟨⟨hv.1, ?_, ?_⟩, h.2.1, h.2.2⟩
      · show l.1 ≤ max l.2 x.2; omega
      · show max l.2 x.2 ≤ _; omega
    · refine ⟨hx, fun q hq => ?_, h⟩
      rcases List.mem_cons.1 hq with rfl | hq
      · omega
      · have := h.2.1 q hq; omega
theorem u66 {o : List Sp} {x : Sp} (h : okR o) (hx : iS x) (hl : ∀ l r, o = l :: r → l.1 ≤ x.1) (z : Int) : eD (g9 o x) z ↔ eD o z ∨ (x.1 ≤ z ∧ z ≤ x.2) := by
  cases o with
  | nil => show eD [x] z ↔ _; rw [uR]; exact or_comm
  | cons l r =>
    have h1 := hl l r rfl
    have hv := h.1
    unfold iS at hv hx
    show eD (if _ then _ else _) z ↔ _
    split
    · rw [uR, uR]
      show (l.1 ≤ z ∧ z ≤ max l.2 x.2) ∨ _ ↔ _
      constructor
      · rintro (h9 | h9)
        · by_cases h8 : z ≤ l.2
          · exact .inl (.inl ⟨h9.1, h8⟩)
          · exact .inr ⟨by omega, by omega⟩
        · exact .inl (.inr h9)
      · rintro ((h9 | h9) | h9)
        · exact .inl ⟨h9.1, by omega⟩
        · exact .inr h9
        · exact .inl ⟨by omega, by omega⟩
    · rw [uR]; exact or_comm
theorem k7x {o : List Sp} {x : Sp} (hl : ∀ l r, o = l :: r → l.1 ≤ x.1) : ∀ l r, g9 o x = l :: r → l.1 ≤ x.1 := by
  intro l r e
  cases o with
  | nil => have e : [x] = l :: r := e; cases e; exact kf8 _
  | cons a s =>
    have h1 := hl a s rfl
    have e : (if x.1 ≤ a.2 + 1 then (a.1, max a.2 x.2) :: s else x :: a :: s) = l :: r := e
    split at e
    · cases e; exact h1
    · cases e; exact kf8 _
def jnR (s : List Sp) : List Sp := s.foldl g9 []
def srP (s : List Sp) : Prop := s.Pairwise fun a b => a.1 ≤ b.1
theorem k3z : ∀ (s o : List Sp), okR o → (∀ p ∈ s, iS p) → srP s → (∀ l r, o = l :: r → ∀ p ∈ s, l.1 ≤ p.1) → okR (s.foldl g9 o) ∧ (∀ z, eD (s.foldl g9 o) z ↔ eD o z ∨ eD s z) ∧ (s.foldl g9 o).length ≤ o.length + s.length
  | [], o, h, _, _, _ => ⟨h, fun z => ⟨.inl, fun h => h.elim id fun h => absurd h (i6 _)⟩, kc7 _⟩
  | x :: s, o, h, hv, hs, hl => by
    have hx := hv x (kb1 ..)
    have hl1 : ∀ l r, o = l :: r → l.1 ≤ x.1 := fun l r e => hl l r e x (kb1 ..)
    obtain ⟨h1, h2⟩ := List.pairwise_cons.1 hs
    obtain ⟨i1, i2, i3⟩ := k3z s (g9 o x) (u65 h hx hl1) (fun p hp => hv p (kb2 _ hp)) h2 (fun l r e p hp => by have := k7x hl1 l r e; have := h1 p hp; omega)
    refine ⟨i1, fun z => ?_, ?_⟩
    · show eD (s.foldl g9 (g9 o x)) z ↔ _
      rw [i2 z, u66 h hx hl1 z, uR, or_assoc]
    · show (s.foldl g9 (g9 o x)).length ≤ _
      have := u2l o x
      simp only [kb3]; omega
def jnP (s : List Sp) : List Sp := (jnR s).reverse
theorem k3y {s : List Sp} (hv : ∀ p ∈ s, iS p) (hs : srP s) : l0 (jnP s) ∧ (∀ z, eD (jnP s) z ↔ eD s z) ∧ (jnP s).length ≤ s.length := by
  obtain ⟨h1, h2, h3⟩ := k3z s [] trivial hv hs (fun l r e => by cases e)
  refine ⟨?_, fun z => ?_, ?_⟩
  · have := z5 (r := []) h1 trivial (fun _ _ q hq => by cases hq)
    rw [kd1] at this; exact this
  · have e : eD (jnP s) z ↔ eD (jnR s) z := by
      unfold eD jnP
      simp only [List.mem_reverse]
    rw [e]
    have := h2 z
    rw [show s.foldl g9 [] = jnR s from rfl] at this
    rw [this]
    exact ⟨fun h => h.elim (fun h => absurd h (i6 _)) id, .inr⟩
  · unfold jnP jnR; rw [kc6]
    have : (s.foldl g9 []).length ≤ ([] : List Sp).length + s.length := h3
    rw [kb6, Nat.zero_add] at this; exact this
theorem sW {a b : List Sp} (h : a.Perm b) (z : Int) : eD a z ↔ eD b z := by
  unfold eD
  constructor
  · rintro ⟨p, hp, h9⟩; exact ⟨p, h.mem_iff.1 hp, h9⟩
  · rintro ⟨p, hp, h9⟩; exact ⟨p, h.mem_iff.2 hp, h9⟩
theorem k85 {a b : List Sp} (h : a.Perm b) (hv : ∀ p ∈ a, iS p) (ha : srP a) (hb : srP b) : jnP a = jnP b := by
  have h1 := k3y hv ha
  have h2 := k3y (s := b) (fun p hp => hv p (h.mem_iff.2 hp)) hb
  exact k3c h1.1 h2.1 fun z => (h1.2.1 z).trans ((sW h z).trans (h2.2.1 z).symm)
/-! intersections -/
def tD (p q : Sp) : List Sp := if max p.1 q.1 ≤ min p.2 q.2 then [(max p.1 q.1, min p.2 q.2)] else []
def itR (p : Sp) (b : List Sp) : List Sp := b.flatMap (tD p)
def i9 (a b : List Sp) : List Sp := a.flatMap fun p => itR p b
theorem tC {p q : Sp} (h : p.2 < q.1 ∨ q.2 < p.1) : tD p q = [] := by unfold tD; rw [if_neg (by omega)]
theorem tA {p : Sp} : ∀ {b : List Sp}, (∀ q ∈ b, p.2 < q.1 ∨ q.2 < p.1) → itR p b = []
  | [], _ => rfl
  | q :: b, h => by
    show tD p q ++ itR p b = []
    rw [tC (h q (kb1 ..)), tA fun r hr => h r (kb2 _ hr)]; rfl
theorem nC : ∀ a : List Sp, i9 a [] = []
  | [] => rfl
  | p :: a => by show itR p [] ++ i9 a [] = []; rw [nC a]; rfl
theorem k89 {x y : Sp} {a b : List Sp} (hb : l0 (y :: b)) (h : x.2 < y.2) : i9 (x :: a) (y :: b) = tD x y ++ i9 a (y :: b) := by
  show (tD x y ++ itR x b) ++ _ = _
  rw [tA fun q hq => .inl (by have := hb.2.1 q hq; omega), kd1]; rfl
theorem tB {y : Sp} {b : List Sp} : ∀ {a : List Sp}, (∀ p ∈ a, y.2 < p.1) → i9 a (y :: b) = i9 a b
  | [], _ => rfl
  | p :: a, h => by
    show (tD p y ++ itR p b) ++ i9 a (y :: b) = itR p b ++ i9 a b
    rw [tC (.inr (h p (kb1 ..))), tB fun q hq => h q (kb2 _ hq)]; rfl
theorem k40 {x y : Sp} {a b : List Sp} (ha : l0 (x :: a)) (h : ¬ x.2 < y.2) : i9 (x :: a) (y :: b) = tD x y ++ i9 (x :: a) b := by
  show (tD x y ++ itR x b) ++ i9 a (y :: b) = tD x y ++ (itR x b ++ i9 a b)
  rw [tB fun p hp => by have := ha.2.1 p hp; omega, kc2]
/-! inside -/
def ctE (p q : Sp) : Bool := decide (q.1 ≤ p.1 ∧ p.2 ≤ q.2)
/-! the nearest -/
def clP (n : Int) (p : Sp) : Int := max p.1 (min p.2 n)
def dsP (a b : Int) : Int := if b < a then a - b else b - a
def nrP (n : Int) : List Sp → Option Int → Option Int
  | [], o => o
  | p :: r, o => nrP n r (match o with
    | none => some (clP n p)
    | some v => if dsP (clP n p) n < dsP v n then some (clP n p) else some v)
/-! spans told as one list of numbers -/
def uU : List Int → List Sp
  | a :: b :: r => (a, b) :: uU r
  | _ => []
def fl : List Sp → List Int
  | [] => []
  | p :: r => p.1 :: p.2 :: fl r
theorem wT : ∀ s : List Sp, uU (fl s) = s
  | [] => rfl
  | p :: r => by show (p.1, p.2) :: uU (fl r) = p :: r; rw [wT r]
theorem fA : ∀ s : List Sp, (fl s).length = s.length * 2
  | [] => rfl
  | p :: r => by show (fl r).length + 1 + 1 = (r.length + 1) * 2; rw [fA r]; omega
theorem fB : ∀ a b : List Sp, fl (a ++ b) = fl a ++ fl b
  | [], b => rfl
  | p :: a, b => by show p.1 :: p.2 :: fl (a ++ b) = p.1 :: p.2 :: (fl a ++ fl b); rw [fB a b]
theorem lM : ∀ (n : Nat) (l : List Int), l.length = n * 2 → fl (uU l) = l
  | 0, [], _ => rfl
  | 0, _ :: _, h => by simp at h
  | n + 1, a :: b :: r, h => by
    show a :: b :: fl (uU r) = a :: b :: r
    rw [lM n r (by simp at h; omega)]
  | n + 1, [_], h => by simp at h; omega
  | n + 1, [], h => by simp at h
theorem uH {n : Nat} {l : List Int} (h : l.length = n * 2) : (uU l).length = n := by
  have h1 := fA (uU l)
  rw [lM n l h] at h1; omega
theorem i4 {n : Nat} {a b : List Int} (h : a.length = n * 2) : uU (a ++ b) = uU a ++ uU b := by
  induction n generalizing a with
  | zero =>
    have : a = [] := kc9 (by omega)
    subst this; rfl
  | succ n ih =>
    match a, h with
    | x :: y :: r, h =>
      show (x, y) :: uU (r ++ b) = (x, y) :: (uU r ++ uU b)
      rw [ih (by simp at h; omega)]
    | [_], h => simp at h; omega
    | [], h => simp at h
theorem vA : ∀ (n : Nat) (l : List Int) (j : Nat), l.length = n * 2 → j < n → (uU l)[j]? = some (ka0 l (j * 2) 0, ka0 l (j * 2 + 1) 0)
  | n + 1, a :: b :: r, 0, _, _ => rfl
  | n + 1, a :: b :: r, j + 1, h, hj => by
    show (uU r)[j]? = _
    rw [vA n r j (by simp at h; omega) (by omega)]
    rw [show (j + 1) * 2 = j * 2 + 1 + 1 by omega]; rfl
  | n + 1, [_], _, h, _ => by simp at h; omega
  | n + 1, [], _, h, _ => by simp at h
theorem c4 {n : Nat} {l : List Int} (h : l.length = n * 2) {p : Sp} : p ∈ uU l ↔ ∃ j, j < n ∧ p = (ka0 l (j * 2) 0, ka0 l (j * 2 + 1) 0) := by
  constructor
  · intro hp
    obtain ⟨j, hj, e⟩ := List.mem_iff_getElem.1 hp
    rw [uH h] at hj
    have := vA n l j h hj
    rw [ka9 (by rw [uH h]; exact hj), e] at this
    exact ⟨j, hj, Option.some.inj this⟩
  · rintro ⟨j, hj, rfl⟩
    exact kd6 (vA n l j h hj)
theorem k2s {n : Nat} {l : List Int} (h : l.length = n * 2) {k : Nat} (hk : k ≤ n) : uU (ka2 (k * 2) l) = ka2 k (uU l) := by
  have h1 := i4 (n := k) (a := ka2 (k * 2) l) (b := ka5 (k * 2) l) (by rw [kb4]; omega)
  rw [kf9] at h1
  have h2 := uH (n := k) (l := ka2 (k * 2) l) (by rw [kb4]; omega)
  conv => rhs; rw [h1]
  exact (kl4 h2).symm
theorem k2t {n : Nat} {l : List Int} (h : l.length = n * 2) {k : Nat} (hk : k ≤ n) : uU (ka5 (k * 2) l) = ka5 k (uU l) := by
  have h1 := i4 (n := k) (a := ka2 (k * 2) l) (b := ka5 (k * 2) l) (by rw [kb4]; omega)
  rw [kf9] at h1
  have h2 := uH (n := k) (l := ka2 (k * 2) l) (by rw [kb4]; omega)
  conv => rhs; rw [h1]
  exact (List.drop_left' h2).symm
theorem sE {n : Nat} {l : List Int} (h : l.length = n * 2) (a b : Int) : uU (l ++ [a, b]) = uU l ++ [(a, b)] := i4 h
theorem a9 {n : Nat} {l : List Int} (h : l.length = n * 2) {k : Nat} (hk : k < n) : ka5 k (uU l) = (ka0 l (k * 2) 0, ka0 l (k * 2 + 1) 0) :: ka5 (k + 1) (uU l) := by
  have hl := uH h
  rw [List.drop_eq_getElem_cons (by omega)]
  have := vA n l k h hk
  rw [ka9 (by omega)] at this
  rw [Option.some.inj this]
theorem aD {n : Nat} {l : List Int} (h : l.length = n * 2) {k : Nat} (hk : k < n) : ka2 (k + 1) (uU l) = ka2 k (uU l) ++ [(ka0 l (k * 2) 0, ka0 l (k * 2 + 1) 0)] := by
  rw [List.take_add_one, vA n l k h hk]; rfl
/-! valid sets -/
def vaE (l : List Int) (j : Nat) : Bool := decide (0 ≤ ka0 l (j * 2) 0 ∧ ka0 l (j * 2) 0 ≤ ka0 l (j * 2 + 1) 0 ∧ ka0 l (j * 2 + 1) 0 ≤ 2147483647 ∧ (j = 0 ∨ ka0 l ((j - 1) * 2 + 1) 0 + 1 < ka0 l (j * 2) 0))
def fF (l : List Int) (n : Nat) : Bool := decide (n ≤ 64) && (List.range n).all (vaE l)
theorem k25 {l : List Int} {n : Nat} (h1 : n ≤ 64) (h : ∀ j, j < n → vaE l j = true) : fF l n = true :=
  Bool.and_eq_true_iff.2 ⟨decide_eq_true h1, List.all_eq_true.2 fun j hj => h j (List.mem_range.1 hj)⟩
theorem k9u {l : List Int} {n : Nat} (h1 : ¬ n ≤ 64) : fF l n = false := by unfold fF; rw [decide_eq_false h1]; rfl
theorem mS {l : List Int} {n k : Nat} (hk : k < n) (h : vaE l k = false) : fF l n = false := by
  cases hb : fF l n with
  | false => rfl
  | true =>
    have := List.all_eq_true.1 (Bool.and_eq_true_iff.1 hb).2 k (List.mem_range.2 hk)
    rw [h] at this; cases this
theorem k3b : ∀ (s : List Sp), (∀ (j : Nat) (p : Sp), s[j]? = some p → iS p) → (∀ (j : Nat) (p q : Sp), s[j]? = some p → s[j + 1]? = some q → p.2 + 1 < q.1) → l0 s
  | [], _, _ => trivial
  | p :: r, h1, h2 => by
    have ih := k3b r (fun j q hq => h1 (j + 1) q hq) (fun j a b ha hb => h2 (j + 1) a b ha hb)
    refine ⟨h1 0 p rfl, ?_, ih⟩
    have hp := h1 0 p rfl
    match r, ih, h2 with
    | [], _, _ => intro q hq; cases hq
    | a :: r, ih, h2 =>
      have h3 := h2 0 p a rfl rfl
      have ha := ih.1
      unfold iS at ha
      intro q hq
      rcases List.mem_cons.1 hq with rfl | hq
      · exact h3
      · have := ih.2.1 q hq; omega
theorem z6 : ∀ (s : List Sp), l0 s → ∀ (j : Nat) (p q : Sp), s[j]? = some p → s[j + 1]? = some q → p.2 + 1 < q.1
  | [], _, j, p, q, h, _ => by simp at h
  | a :: r, h, 0, p, q, hp, hq => by
    have hp : some a = some p := hp
    cases hp
    exact h.2.1 q (kd6 (show r[0]? = some q from hq))
  | a :: r, h, j + 1, p, q, hp, hq => z6 r h.2.2 j p q hp hq
theorem zE {l : List Int} {n : Nat} (hl : l.length = n * 2) : fF l n = true ↔ n ≤ 64 ∧ l0 (uU l) := by
  constructor
  · intro h
    have h1 := Bool.and_eq_true_iff.1 h
    have ha : ∀ j, j < n → vaE l j = true := fun j hj => List.all_eq_true.1 h1.2 j (List.mem_range.2 hj)
    refine ⟨of_decide_eq_true h1.1, k3b _ (fun j p hp => ?_) (fun j p q hp hq => ?_)⟩
    · have hj : j < n := by have := (List.getElem?_eq_some_iff.1 hp).1; rw [uH hl] at this; exact this
      rw [vA n l j hl hj] at hp
      cases hp
      have := of_decide_eq_true (ha j hj)
      exact ⟨this.1, this.2.1, this.2.2.1⟩
    · have hj : j + 1 < n := by have := (List.getElem?_eq_some_iff.1 hq).1; rw [uH hl] at this; exact this
      rw [vA n l j hl (by omega)] at hp
      rw [vA n l (j + 1) hl hj] at hq
      cases hp; cases hq
      have := (of_decide_eq_true (ha (j + 1) hj)).2.2.2
      rw [show j + 1 - 1 = j by omega] at this
      rcases this with h9 | h9
      · omega
      · exact h9
  · rintro ⟨h1, h2⟩
    refine k25 h1 fun j hj => decide_eq_true ?_
    have hv := k3a h2 _ (kd6 (vA n l j hl hj))
    refine ⟨hv.1, hv.2.1, hv.2.2, ?_⟩
    rcases kl0 j with h9 | h9
    · exact .inl h9
    · right
      have e := vA n l (j - 1) hl (by omega)
      have e2 := vA n l j hl hj
      rw [show j = j - 1 + 1 by omega] at e2
      have := z6 _ h2 (j - 1) _ _ e e2
      rw [show j - 1 + 1 = j by omega] at this
      exact this
def spS (l : List Int) (n : Nat) : List Int := if fF l n = true then l else []
def spN (l : List Int) (n : Nat) : Nat := if fF l n = true then n else 0
theorem u54 {l : List Int} {n : Nat} (h : fF l n = true) : spS l n = l ∧ spN l n = n := ⟨if_pos h, if_pos h⟩
/-! spans in order, and joined -/
theorem k2u {n : Nat} {l : List Int} (h : l.length = n * 2) {j : Nat} (hj : j < n) : (uU l)[j]'(by rw [uH h]; exact hj) = (ka0 l (j * 2) 0, ka0 l (j * 2 + 1) 0) := by
  have := vA n l j h hj
  rw [ka9 (by rw [uH h]; exact hj)] at this
  exact Option.some.inj this
def RG (l : List Int) (n : Nat) : Prop := ∀ j, j < n → 0 ≤ ka0 l (j * 2) 0 ∧ ka0 l (j * 2) 0 ≤ ka0 l (j * 2 + 1) 0 ∧ ka0 l (j * 2 + 1) 0 ≤ 2147483647
theorem RG.v {l : List Int} {n : Nat} (hl : l.length = n * 2) (h : RG l n) : ∀ p ∈ uU l, iS p := fun p hp => by
  obtain ⟨j, hj, rfl⟩ := (c4 hl).1 hp
  exact h j hj
theorem u18 {l : List Int} {n : Nat} (hl : l.length = n * 2) (h : ∀ p ∈ uU l, iS p) : RG l n := fun j hj => h _ ((c4 hl).2 ⟨j, hj, rfl⟩)
def stP (s : List Sp) : List Sp := s.mergeSort fun a b => decide (a.1 ≤ b.1)
theorem dO (s : List Sp) : (stP s).Perm s := List.mergeSort_perm _ _
theorem k2c (s : List Sp) : srP (stP s) := by
  have h := List.pairwise_mergeSort (le := fun (x y : Sp) => decide (x.1 ≤ y.1)) (fun a b c h1 h2 => decide_eq_true (by have := of_decide_eq_true h1; have := of_decide_eq_true h2; omega)) (fun a b => by
    rw [Bool.or_eq_true]
    rcases Int.le_total a.1 b.1 with h | h
    · exact .inl (decide_eq_true h)
    · exact .inr (decide_eq_true h)) s
  exact h.imp fun h => of_decide_eq_true h
def mkP (s : List Sp) : List Sp := jnP (stP s)
theorem k3n {s : List Sp} (hv : ∀ p ∈ s, iS p) : l0 (mkP s) ∧ (∀ z, eD (mkP s) z ↔ eD s z) ∧ (mkP s).length ≤ s.length := by
  obtain ⟨h1, h2, h3⟩ := k3y (s := stP s) (fun p hp => hv p ((dO s).mem_iff.1 hp)) (k2c s)
  exact ⟨h1, fun z => (h2 z).trans (sW (dO s) z), by rw [(dO s).length_eq] at h3; exact h3⟩
theorem k15 {s t : List Sp} (hv : ∀ p ∈ s, iS p) (h : t.Perm s) (ht : srP t) : jnP t = mkP s :=
  (k85 ((dO s).trans h.symm) (fun p hp => hv p ((dO s).mem_iff.1 hp)) (k2c s) ht).symm
structure SI (l : List Int) (i : Nat) (o : List Int) : Prop where
  len : o.length = i * 2
  perm : (uU o).Perm (ka2 i (uU l))
  sr : srP (uU o)
theorem SI.zero (l : List Int) : SI l 0 [] := ⟨rfl, List.Perm.refl _, List.Pairwise.nil⟩
theorem SI.rg {l o : List Int} {n i : Nat} (h : SI l i o) (hl : l.length = n * 2) (hi : i ≤ n) (hr : RG l n) : RG o i :=
  u18 h.len fun p hp => hr.v hl p (kg8 (h.perm.mem_iff.1 hp))
theorem oU {s : List Sp} (h : srP s) {i j : Nat} {p q : Sp} (hij : i ≤ j) (hp : s[i]? = some p) (hq : s[j]? = some q) : p.1 ≤ q.1 := by
  obtain ⟨h1, rfl⟩ := List.getElem?_eq_some_iff.1 hp
  obtain ⟨h2, rfl⟩ := List.getElem?_eq_some_iff.1 hq
  rcases kk1 i j with h9 | h9
  · exact List.pairwise_iff_getElem.1 h i j h1 h2 h9
  · have e : i = j := by omega
    subst e; exact kf8 _
theorem SI.step {l o q : List Int} {n i k : Nat} {a b : Int} (h : SI l i o) (hl : l.length = n * 2) (hi : i < n) (ha : a = ka0 l (i * 2) 0) (hb : b = ka0 l (i * 2 + 1) 0) (hk : k ≤ i) (h1 : ∀ j, k ≤ j → j < i → a < ka0 o (j * 2) 0) (h2 : k = 0 ∨ ka0 o ((k - 1) * 2) 0 ≤ a) (hq : q = ka2 (k * 2) o ++ [a, b] ++ ka5 (k * 2) o) : SI l (i + 1) q := by
  have e : uU q = ka2 k (uU o) ++ [(a, b)] ++ ka5 k (uU o) := by
    rw [hq, i4 (n := k + 1) (by rw [ka4, kb4, h.len]; simp only [kb3, kb6]; omega), sE (n := k) (by rw [kb4, h.len]; omega), k2s h.len hk, k2t h.len hk]
  refine ⟨?_, ?_, ?_⟩
  · rw [hq]; simp only [ka4, kb4, kb9, kb3, kb6, h.len]; omega
  · rw [e, aD hl hi, ← ha, ← hb, kc2]
    refine (List.Perm.append_left _ List.perm_append_comm).trans ?_
    rw [← kc2, kf9]
    exact h.perm.append_right _
  · have hg : ∀ j, j < i → (uU o)[j]? = some (ka0 o (j * 2) 0, ka0 o (j * 2 + 1) 0) := fun j hj => vA i o j h.len hj
    rw [e, srP, kc2, List.pairwise_append]
    refine ⟨h.sr.sublist (List.take_sublist _ _), List.Pairwise.cons (fun x hx => ?_) (h.sr.sublist (List.drop_sublist _ _)), fun x hx y hy => ?_⟩
    · obtain ⟨j, hj, e2⟩ := List.mem_iff_getElem?.1 hx |>.elim fun j hj => (⟨j, (List.getElem?_eq_some_iff.1 hj).1, hj⟩ : ∃ j, j < (ka5 k (uU o)).length ∧ (ka5 k (uU o))[j]? = some x)
      rw [kb9, uH h.len] at hj
      rw [ke1, hg _ (by omega)] at e2
      cases e2
      have := h1 (k + j) (by omega) (by omega)
      show a ≤ _; omega
    · obtain ⟨j, hj⟩ := List.mem_iff_getElem?.1 hx
      have hj2 := (List.getElem?_eq_some_iff.1 hj).1
      rw [kb4, uH h.len] at hj2
      rw [List.getElem?_take, if_pos (by omega)] at hj
      have hxa : x.1 ≤ a := by
        rcases h2 with h2 | h2
        · omega
        · have := oU h.sr (show j ≤ k - 1 by omega) hj (hg (k - 1) (by omega))
          exact Int.le_trans this h2
      rcases List.mem_cons.1 (show y ∈ (a, b) :: ka5 k (uU o) from hy) with rfl | hy
      · exact hxa
      · obtain ⟨m, hm⟩ := List.mem_iff_getElem?.1 hy
        have hm2 := (List.getElem?_eq_some_iff.1 hm).1
        rw [kb9, uH h.len] at hm2
        rw [ke1, hg _ (by omega)] at hm
        cases hm
        have := h1 (k + m) (by omega) (by omega)
        show x.1 ≤ _; omega
theorem SI.all {l o : List Int} {n i : Nat} (h : SI l i o) (hl : l.length = n * 2) (hi : n ≤ i) : (uU o).Perm (uU l) := by
  have := h.perm
  rw [kc3 (by rw [uH hl]; exact hi)] at this
  exact this
def MG (o : List Int) (i : Nat) (k : Nat) (out : List Int) : Prop := out = fl ((ka2 i (uU o)).foldl g9 []).reverse ∧ ((ka2 i (uU o)).foldl g9 []).length = k
theorem MG.zero (o : List Int) : MG o 0 0 [] := ⟨rfl, rfl⟩
theorem MG.len {o out : List Int} {i k : Nat} (h : MG o i k out) : out.length = k * 2 := by rw [h.1, fA, kc6, h.2]
theorem u2z (r : List Sp) (l : Sp) (v : Int) : List.set (fl (r ++ [l])) (r.length * 2 + 1) v = fl (r ++ [(l.1, v)]) := by
  rw [fB, fB, ← fA r, List.set_append_right _ _ (by omega), show (fl r).length + 1 - (fl r).length = 1 by omega]; rfl
theorem k8k (r : List Sp) (l : Sp) : ka0 (fl (r ++ [l])) (r.length * 2 + 1) 0 = l.2 := by
  rw [fB, List.getD_eq_getElem?_getD, ← fA r, List.getElem?_append_right (by omega), show (fl r).length + 1 - (fl r).length = 1 by omega]; rfl
theorem MG.last {o out : List Int} {i k : Nat} (h : MG o i k out) (hk : 1 ≤ k) : ∃ l r, (ka2 i (uU o)).foldl g9 [] = l :: r ∧ out = fl (r.reverse ++ [l]) ∧ r.length = k - 1 ∧ ka0 out ((k - 1) * 2 + 1) 0 = l.2 := by
  obtain ⟨h1, h2⟩ := h
  cases e : (ka2 i (uU o)).foldl g9 [] with
  | nil => rw [e] at h2; simp at h2; omega
  | cons l r =>
    rw [e] at h1 h2
    rw [kf3] at h1
    have h3 : r.length = k - 1 := by simp at h2; omega
    refine ⟨l, r, rfl, h1, h3, ?_⟩
    rw [h1, ← h3, ← (kc6 : r.reverse.length = r.length)]; exact k8k _ _
theorem MG.next {o : List Int} {n i : Nat} (hl : o.length = n * 2) (hi : i < n) : (ka2 (i + 1) (uU o)).foldl g9 [] = g9 ((ka2 i (uU o)).foldl g9 []) (ka0 o (i * 2) 0, ka0 o (i * 2 + 1) 0) := by
  rw [aD hl hi, List.foldl_append]; rfl
theorem MG.new {o out q : List Int} {n i k : Nat} {a b : Int} (h : MG o i k out) (hl : o.length = n * 2) (hi : i < n) (ha : a = ka0 o (i * 2) 0) (hb : b = ka0 o (i * 2 + 1) 0) (h2 : k = 0 ∨ ka0 out ((k - 1) * 2 + 1) 0 + 1 < a) (hq : q = out ++ [a, b]) : MG o (i + 1) (k + 1) q := by
  unfold MG
  rw [MG.next hl hi, ← ha, ← hb, hq]
  rcases kl0 k with h0 | h0
  · have h3 := h.2
    rw [h0] at h3
    have e := kc9 h3
    rw [h.1, e]; subst h0; exact ⟨rfl, rfl⟩
  · obtain ⟨l, r, e, e1, e2, e3⟩ := h.last h0
    rw [e]
    have h4 : l.2 + 1 < a := by
      rcases h2 with h2 | h2
      · omega
      · rw [e3] at h2; exact h2
    have e5 : g9 (l :: r) (a, b) = (a, b) :: l :: r := by
      show (if a ≤ l.2 + 1 then _ else _) = _
      rw [if_neg (by omega)]
    rw [e5, e1]
    refine ⟨?_, by simp only [kb3]; omega⟩
    rw [kf3, kf3, fB (r.reverse ++ [l])]; rfl
theorem MG.join {o out q : List Int} {n i k : Nat} {a b v : Int} (h : MG o i k out) (hl : o.length = n * 2) (hi : i < n) (ha : a = ka0 o (i * 2) 0) (hb : b = ka0 o (i * 2 + 1) 0) (hk : 1 ≤ k) (h2 : a ≤ ka0 out ((k - 1) * 2 + 1) 0 + 1) (hv : v = max (ka0 out ((k - 1) * 2 + 1) 0) b) (hq : q = List.set out ((k - 1) * 2 + 1) v) : MG o (i + 1) k q := by
  unfold MG
  rw [MG.next hl hi, ← ha, ← hb, hq]
  obtain ⟨l, r, e, e1, e2, e3⟩ := h.last hk
  rw [e]
  rw [e3] at h2 hv
  have e5 : g9 (l :: r) (a, b) = (l.1, max l.2 b) :: r := by
    show (if a ≤ l.2 + 1 then _ else _) = _
    rw [if_pos h2]
  rw [e5, e1, ← e2]
  refine ⟨?_, by simp only [kb3]; omega⟩
  rw [← (kc6 : r.reverse.length = r.length), u2z, kf3, hv]
theorem MG.fin {o out : List Int} {n i k : Nat} (h : MG o i k out) (hl : o.length = n * 2) (hi : n ≤ i) : out = fl (jnP (uU o)) ∧ (jnP (uU o)).length = k := by
  unfold MG at h
  rw [kc3 (by rw [uH hl]; exact hi)] at h
  refine ⟨h.1, ?_⟩
  unfold jnP jnR; rw [kc6]; exact h.2
theorem u63 : ∀ (s o : List Sp), (∀ p ∈ o, iS p) → (∀ p ∈ s, iS p) → ∀ p ∈ s.foldl g9 o, 0 ≤ p.1 ∧ 0 ≤ p.2 ∧ p.2 ≤ 2147483647
  | [], o, h, _, p, hp => by have := h p hp; unfold iS at this; omega
  | x :: s, o, h, hs, p, hp => by
    refine u63 s (g9 o x) (fun q hq => ?_) (fun q hq => hs q (kb2 _ hq)) p hp
    have hx := hs x (kb1 ..)
    cases o with
    | nil => rw [List.mem_singleton.1 (show q ∈ [x] from hq)]; exact hx
    | cons l r =>
      have hl := h l (kb1 ..)
      have hq : q ∈ (if x.1 ≤ l.2 + 1 then (l.1, max l.2 x.2) :: r else x :: l :: r) := hq
      unfold iS at hx hl
      split at hq
      · rcases List.mem_cons.1 hq with rfl | hq
        · exact ⟨hl.1, by show l.1 ≤ max l.2 x.2; omega, by show max l.2 x.2 ≤ _; omega⟩
        · exact h q (kb2 _ hq)
      · rcases List.mem_cons.1 hq with rfl | hq
        · exact hx
        · exact h q hq
theorem MG.hi {o out : List Int} {n i k : Nat} (h : MG o i k out) (hl : o.length = n * 2) (hr : RG o n) (hk : 1 ≤ k) : 0 ≤ ka0 out ((k - 1) * 2 + 1) 0 ∧ ka0 out ((k - 1) * 2 + 1) 0 ≤ 2147483647 := by
  obtain ⟨l, r, e, _, _, e3⟩ := h.last hk
  rw [e3]
  have := u63 (ka2 i (uU o)) [] (fun _ h => (by cases h)) (fun p hp => hr.v hl p (kg8 hp)) l (by rw [e]; exact kb1 ..)
  exact ⟨this.2.1, this.2.2⟩
/-! the functions on lists -/
def rgE (l : List Int) (j : Nat) : Bool := decide (0 ≤ ka0 l (j * 2) 0 ∧ ka0 l (j * 2) 0 ≤ ka0 l (j * 2 + 1) 0 ∧ ka0 l (j * 2 + 1) 0 ≤ 2147483647)
def rgB (l : List Int) (n : Nat) : Bool := (List.range n).all (rgE l)
theorem u5b {l : List Int} {n : Nat} (h : ∀ j, j < n → rgE l j = true) : rgB l n = true := List.all_eq_true.2 fun j hj => h j (List.mem_range.1 hj)
theorem u20 {l : List Int} {n k : Nat} (hk : k < n) (h : rgE l k = false) : rgB l n = false := by
  cases hb : rgB l n with
  | false => rfl
  | true => have := List.all_eq_true.1 hb k (List.mem_range.2 hk); rw [h] at this; cases this
theorem jX {l : List Int} {n : Nat} : rgB l n = true ↔ RG l n := ⟨fun h j hj => of_decide_eq_true (List.all_eq_true.1 h j (List.mem_range.2 hj)), fun h => u5b fun j hj => decide_eq_true (h j hj)⟩
def rS (l : List Int) : List Int := fl (mkP (uU l))
def lF (l : List Int) : Nat := (mkP (uU l)).length
theorem xJ (l : List Int) : (rS l).length = lF l * 2 := fA _
theorem u0o {l : List Int} {n : Nat} (hl : l.length = n * 2) (hr : RG l n) : lF l ≤ n := by
  have := (k3n (hr.v hl)).2.2
  rw [uH hl] at this; exact this
theorem u2p {l o out : List Int} {n k : Nat} (hl : l.length = n * 2) (hr : RG l n) (ho : o.length = n * 2) (hp : (uU o).Perm (uU l)) (hs : srP (uU o)) (h : MG o n k out) : out = rS l ∧ lF l = k := by
  obtain ⟨h1, h2⟩ := h.fin ho (kc7 _)
  rw [k15 (hr.v hl) hp hs] at h1 h2
  exact ⟨h1, h2⟩
def mG (l : List Int) (n : Nat) : Int := if rgB l n = true then (if lF l ≤ 64 then 0 else 3) else 2
def dE (l : List Int) (n : Nat) : List Int := if rgB l n = true ∧ lF l ≤ 64 then rS l else []
def yZ (l : List Int) (n : Nat) : Nat := if rgB l n = true ∧ lF l ≤ 64 then lF l else 0
theorem xE {l : List Int} {n : Nat} (h : rgB l n = false) : mG l n = 2 ∧ dE l n = [] ∧ yZ l n = 0 := by
  unfold mG dE yZ; rw [h]
  exact ⟨if_neg kh8, if_neg fun h => absurd h.1 kh8, if_neg fun h => absurd h.1 kh8⟩
theorem u2j {l : List Int} {n : Nat} (h : rgB l n = true) (h2 : 64 < lF l) : mG l n = 3 ∧ dE l n = [] ∧ yZ l n = 0 := by
  unfold mG dE yZ
  rw [if_pos h]
  exact ⟨if_neg (by omega), if_neg fun h => by omega, if_neg fun h => by omega⟩
theorem k02 {l : List Int} {n : Nat} (h : rgB l n = true) (h2 : lF l ≤ 64) : mG l n = 0 ∧ dE l n = rS l ∧ yZ l n = lF l := by
  unfold mG dE yZ
  rw [if_pos h]
  exact ⟨if_pos h2, if_pos ⟨h, h2⟩, if_pos ⟨h, h2⟩⟩
theorem fO (l : List Int) (n : Nat) : (dE l n).length = yZ l n * 2 := by
  unfold dE yZ; split
  · exact xJ l
  · rfl
theorem lC (l : List Int) (n : Nat) : (0 ≤ mG l n ∧ mG l n ≤ 3) ∧ yZ l n ≤ 64 := by
  constructor
  · unfold mG; (repeat' split) <;> omega
  · unfold yZ; split <;> omega
theorem k3o {l : List Int} {n : Nat} (hl : l.length = n * 2) : l0 (uU (dE l n)) := by
  unfold dE; split
  · rename_i h; unfold rS; rw [wT]; exact (k3n ((jX.1 h.1).v hl)).1
  · trivial
theorem u2k {l : List Int} {n : Nat} (hl : l.length = n * 2) : fF (dE l n) (yZ l n) = true := (zE (fO l n)).2 ⟨(lC l n).2, k3o hl⟩
/-! inside -/
def coB (b : List Int) (p q : Int) : Bool := (uU b).any (ctE (p, q))
/-! the nearest -/
def NR (n : Int) (l : List Int) (i : Nat) (b : Int) (f : Bool) : Prop := nrP n (ka2 i (uU l)) none = (if f = true then some b else none) ∧ (f = false → b = 0)
theorem NR.zero (n : Int) (l : List Int) : NR n l 0 0 false := ⟨rfl, fun _ => rfl⟩
def neV (n : Int) (l : List Int) : Int := (nrP n (uU l) none).getD 0
def nrF (n : Int) (l : List Int) : Bool := (nrP n (uU l) none).isSome
theorem NR.fin {n : Int} {l : List Int} {i m : Nat} {b : Int} {f : Bool} (h : NR n l i b f) (hl : l.length = m * 2) (hi : m ≤ i) : neV n l = b ∧ nrF n l = f := by
  have h1 := h.1
  rw [kc3 (by rw [uH hl]; exact hi)] at h1
  unfold neV nrF
  rw [h1]
  cases f with
  | true => exact ⟨rfl, rfl⟩
  | false => exact ⟨(h.2 rfl).symm, rfl⟩
/-! intersections -/
def isS (a b : List Int) : List Int := fl (ka2 64 (i9 (uU a) (uU b)))
def isN (a b : List Int) : Nat := (ka2 64 (i9 (uU a) (uU b))).length
structure IX (a b : List Int) (i j k : Nat) (out : List Int) : Prop where
  ex : ∃ q, out = fl q ∧ q.length = k ∧ q ++ i9 (ka5 i (uU a)) (ka5 j (uU b)) = i9 (uU a) (uU b)
theorem IX.zero (a b : List Int) : IX a b 0 0 0 [] := ⟨[], rfl, rfl, rfl⟩
theorem IX.len {a b out : List Int} {i j k : Nat} (h : IX a b i j k out) : out.length = k * 2 := by
  obtain ⟨q, rfl, rfl, _⟩ := h; exact fA q
theorem j8 : ∀ (k : Nat) {s : List Sp}, l0 s → l0 (ka5 k s)
  | 0, _, h => h
  | k + 1, [], _ => trivial
  | k + 1, p :: s, h => j8 k h.2.2
theorem IX.put {a b out o : List Int} {n m i j k : Nat} {u v : Int} (h : IX a b i j k out) (ha : a.length = n * 2) (hb : b.length = m * 2) (oa : l0 (uU a)) (ob : l0 (uU b)) (hi : i < n) (hj : j < m) (hu : u = max (ka0 a (i * 2) 0) (ka0 b (j * 2) 0)) (hv : v = min (ka0 a (i * 2 + 1) 0) (ka0 b (j * 2 + 1) 0)) (ho : (u ≤ v ∧ o = out ++ [u, v]) ∨ (¬ u ≤ v ∧ o = out)) :
    (ka0 a (i * 2 + 1) 0 < ka0 b (j * 2 + 1) 0 → IX a b (i + 1) j (if u ≤ v then k + 1 else k) o) ∧ (¬ ka0 a (i * 2 + 1) 0 < ka0 b (j * 2 + 1) 0 → IX a b i (j + 1) (if u ≤ v then k + 1 else k) o) := by
  obtain ⟨q, e1, e2, e3⟩ := h
  rw [a9 ha hi, a9 hb hj] at e3
  have oa2 := j8 i oa
  have ob2 := j8 j ob
  rw [a9 ha hi] at oa2
  rw [a9 hb hj] at ob2
  have hE : tD (ka0 a (i * 2) 0, ka0 a (i * 2 + 1) 0) (ka0 b (j * 2) 0, ka0 b (j * 2 + 1) 0) = if u ≤ v then [(u, v)] else [] := by unfold tD; rw [hu, hv]
  have hq : o = fl (q ++ (if u ≤ v then [(u, v)] else [])) ∧ (q ++ (if u ≤ v then [(u, v)] else [])).length = if u ≤ v then k + 1 else k := by
    rcases ho with ⟨h1, h2⟩ | ⟨h1, h2⟩
    · rw [if_pos h1, if_pos h1, h2, e1, fB, ka4, e2]; exact ⟨rfl, rfl⟩
    · rw [if_neg h1, if_neg h1, h2, e1, kd1]; exact ⟨rfl, e2⟩
  constructor
  · intro hlt
    rw [k89 ob2 hlt, hE, ← a9 hb hj, ← kc2] at e3
    exact ⟨_, hq.1, hq.2, e3⟩
  · intro hlt
    rw [k40 oa2 hlt, hE, ← a9 ha hi, ← kc2] at e3
    exact ⟨_, hq.1, hq.2, e3⟩
theorem IX.fin {a b out : List Int} {n m i j k : Nat} (h : IX a b i j k out) (ha : a.length = n * 2) (hb : b.length = m * 2) (hk : k ≤ 64) (hf : n ≤ i ∨ m ≤ j ∨ k = 64) : out = isS a b ∧ isN a b = k := by
  obtain ⟨q, e1, e2, e3⟩ := h
  have e4 : ka2 64 (i9 (uU a) (uU b)) = q := by
    rw [← e3]
    rcases kk1 k 64 with h9 | h9
    · have e5 : i9 (ka5 i (uU a)) (ka5 j (uU b)) = [] := by
        rcases hf with hf | hf | hf
        · rw [kj9 (by rw [uH ha]; exact hf)]; rfl
        · rw [show ka5 j (uU b) = [] from kj9 (by rw [uH hb]; exact hf)]; exact nC _
        · omega
      rw [e5, kd1, kc3 (by omega)]
    · exact kl4 (by omega)
  unfold isS isN
  rw [e4]; exact ⟨e1, e2⟩
def AL (a b : List Int) (i k : Nat) (out : List Int) : Prop := out = fl (i9 (ka2 i (uU a)) (uU b)) ∧ (i9 (ka2 i (uU a)) (uU b)).length = k
def AJ (a b : List Int) (i j k : Nat) (out : List Int) : Prop := out = fl (i9 (ka2 i (uU a)) (uU b) ++ itR (ka0 a (i * 2) 0, ka0 a (i * 2 + 1) 0) (ka2 j (uU b))) ∧ (i9 (ka2 i (uU a)) (uU b) ++ itR (ka0 a (i * 2) 0, ka0 a (i * 2 + 1) 0) (ka2 j (uU b))).length = k
theorem AL.zero (a b : List Int) : AL a b 0 0 [] := ⟨rfl, rfl⟩
theorem s9 (p : Sp) (s : List Sp) (q : Sp) : itR p (s ++ [q]) = itR p s ++ tD p q := by unfold itR; rw [List.flatMap_append]; simp
theorem AJ.y {a b out o : List Int} {m i j k : Nat} {u v : Int} (h : AJ a b i j k out) (hb : b.length = m * 2) (hj : j < m) (hu : u = max (ka0 a (i * 2) 0) (ka0 b (j * 2) 0)) (hv : v = min (ka0 a (i * 2 + 1) 0) (ka0 b (j * 2 + 1) 0)) (h1 : u ≤ v) (ho : o = out ++ [u, v]) : AJ a b i (j + 1) (k + 1) o := by
  have hE : tD (ka0 a (i * 2) 0, ka0 a (i * 2 + 1) 0) (ka0 b (j * 2) 0, ka0 b (j * 2 + 1) 0) = [(u, v)] := by
    unfold tD; rw [← hu, ← hv, if_pos h1]
  unfold AJ
  rw [aD hb hj, s9, hE, ← kc2, fB, ka4, ← h.1, h.2, ho]; exact ⟨rfl, rfl⟩
theorem AJ.n {a b out : List Int} {m i j k : Nat} (h : AJ a b i j k out) (hb : b.length = m * 2) (hj : j < m) (h1 : ¬ max (ka0 a (i * 2) 0) (ka0 b (j * 2) 0) ≤ min (ka0 a (i * 2 + 1) 0) (ka0 b (j * 2 + 1) 0)) : AJ a b i (j + 1) k out := by
  have hE : tD (ka0 a (i * 2) 0, ka0 a (i * 2 + 1) 0) (ka0 b (j * 2) 0, ka0 b (j * 2 + 1) 0) = [] := by
    unfold tD; rw [if_neg h1]
  unfold AJ
  rw [aD hb hj, s9, hE, kd1]; exact h
theorem AL.fin {a b out : List Int} {n i k : Nat} (h : AL a b i k out) (ha : a.length = n * 2) (hi : n ≤ i) : out = fl (i9 (uU a) (uU b)) ∧ (i9 (uU a) (uU b)).length = k := by
  unfold AL at h
  rw [kc3 (by rw [uH ha]; exact hi)] at h; exact h
theorem k44 {o : List Int} {k n : Nat} {p : Int} (h : ∀ j, k ≤ j → j < n → p < ka0 o (j * 2) 0) (h1 : p < ka0 o ((k - 1) * 2) 0) (hk : 1 ≤ k) : ∀ j, k - 1 ≤ j → j < n → p < ka0 o (j * 2) 0 := fun j hj hn => by
  rcases kk1 j k with h7 | h7
  · rw [show j = k - 1 by omega]; exact h1
  · exact h j h7 hn
theorem fH {l : List Int} {k : Nat} (ha : ∀ j, j < k → vaE l j = true) (h : 1 ≤ k) : 0 ≤ ka0 l ((k - 1) * 2 + 1) 0 ∧ ka0 l ((k - 1) * 2 + 1) 0 ≤ 2147483647 := by
  have := of_decide_eq_true (ha (k - 1) (by omega)); omega
def wA (a b : List Int) : Bool := decide (a = b)
theorem u1t {a b : List Int} (h : a = b) : wA a b = true := decide_eq_true h
theorem u51 {a b : List Int} {n m : Nat} (ha : a.length = n * 2) (hb : b.length = m * 2) (h : ¬ n = m) : wA a b = false := decide_eq_false fun e => by rw [e] at ha; omega
theorem u50 {a b : List Int} {k : Nat} (h : ¬ (ka0 a (k * 2) 0 = ka0 b (k * 2) 0 ∧ ka0 a (k * 2 + 1) 0 = ka0 b (k * 2 + 1) 0)) : wA a b = false := decide_eq_false fun e => h (by rw [e]; exact ⟨rfl, rfl⟩)
theorem u4z {a b : List Int} {n m : Nat} (ha : a.length = n * 2) (hb : b.length = m * 2) (hnm : n = m) (h : ∀ j, j < n → ka0 a (j * 2) 0 = ka0 b (j * 2) 0 ∧ ka0 a (j * 2 + 1) 0 = ka0 b (j * 2 + 1) 0) : wA a b = true := by
  subst hnm
  refine u1t ?_
  rw [← lM n a ha, ← lM n b hb]
  congr 1
  refine List.ext_getElem (by rw [uH ha, uH hb]) fun i h1 h2 => ?_
  rw [uH ha] at h1
  rw [k2u ha h1, k2u hb h1, (h i h1).1, (h i h1).2]
theorem IX.rn {a b out : List Int} {n m i j k : Nat} (h : IX a b i j k out) (ha : a.length = n * 2) (hb : b.length = m * 2) (oa : l0 (uU a)) (ob : l0 (uU b)) (hi : i < n) (hj : j < m) (h1 : ¬ max (ka0 a (i * 2) 0) (ka0 b (j * 2) 0) ≤ min (ka0 a (i * 2 + 1) 0) (ka0 b (j * 2 + 1) 0)) (h2 : ¬ ka0 a (i * 2 + 1) 0 < ka0 b (j * 2 + 1) 0) : IX a b i (j + 1) k out := by
  have h9 := (h.put ha hb oa ob hi hj rfl rfl (.inr ⟨h1, rfl⟩)).2 h2
  rw [if_neg h1] at h9; exact h9
def CJ (b : List Int) (u v : Int) (j : Nat) (f : Bool) : Prop := f = (ka2 j (uU b)).any (ctE (u, v))
theorem CJ.zero (b : List Int) (u v : Int) : CJ b u v 0 false := rfl
theorem CJ.yes {b : List Int} {u v : Int} {j m : Nat} (h : CJ b u v j false) (hb : b.length = m * 2) (hj : j < m) (h1 : ka0 b (j * 2) 0 ≤ u ∧ v ≤ ka0 b (j * 2 + 1) 0) : CJ b u v (j + 1) true := by
  unfold CJ at *; rw [aD hb hj, kl5, ← h]
  show true = (decide _ || false)
  rw [decide_eq_true (show ka0 b (j * 2) 0 ≤ u ∧ v ≤ ka0 b (j * 2 + 1) 0 from h1)]; rfl
theorem CJ.no {b : List Int} {u v : Int} {j m : Nat} (h : CJ b u v j false) (hb : b.length = m * 2) (hj : j < m) (h1 : ¬ (ka0 b (j * 2) 0 ≤ u ∧ v ≤ ka0 b (j * 2 + 1) 0)) : CJ b u v (j + 1) false := by
  unfold CJ at *; rw [aD hb hj, kl5, ← h]
  show false = (decide _ || false)
  rw [decide_eq_false (show ¬ (ka0 b (j * 2) 0 ≤ u ∧ v ≤ ka0 b (j * 2 + 1) 0) from h1)]; rfl
theorem CJ.fin {b : List Int} {u v : Int} {j m : Nat} {f : Bool} (h : CJ b u v j f) (hb : b.length = m * 2) (hj : m ≤ j) : coB b u v = f := by
  unfold CJ at h; rw [kc3 (by rw [uH hb]; exact hj)] at h; exact h.symm
end Go.Proofs.YtdbjebdomdnbkaaGreat
