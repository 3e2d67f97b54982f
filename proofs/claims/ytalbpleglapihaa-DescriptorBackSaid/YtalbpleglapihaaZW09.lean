/- Sets of integers. No statement is proved here. -/
import Derived.Test.YtalbpleglapihaaZLBy
namespace Go.Proofs.Ytalbpleglapihaa
open Go.ChangeShapes Go.WideShapes Go.ChangeAt Go.RowKit
open Bool renaming false_ne_true → kh8
open Int renaming le_refl → kf9
open List renaming any_append → kl4, append_assoc → kb7, append_nil → kc8, drop → ka7, drop_of_length_le → kj4, eq_nil_of_length_eq_zero → kd5, getD → ka0, getElem?_drop → ke6, getElem?_eq_getElem → ka9, length_append → ka4, length_cons → kb1, length_drop → kb2, length_nil → kb6, length_reverse → kc7, length_take → kb3, mem_cons_of_mem → kb8, mem_cons_self → kb0, mem_of_getElem? → kd7, mem_of_mem_take → kg9, reverse_cons → kf5, take → ka2, take_append_drop → kg1, take_left' → kl3, take_of_length_le → kc3
open Nat renaming eq_zero_or_pos → kk7, le_refl → kc9, lt_or_ge → kj6
set_option linter.unusedVariables false
set_option linter.unusedSimpArgs false
/-! sets of integers: spans as pairs -/
abbrev Sp := Int × Int
def fZ (p : Sp) : Prop := 0 ≤ p.1 ∧ p.1 ≤ p.2 ∧ p.2 ≤ 2147483647
def jQ : List Sp → Prop
  | [] => True
  | p :: r => fZ p ∧ (∀ q ∈ r, p.2 + 1 < q.1) ∧ jQ r
def cX (ps : List Sp) (x : Int) : Prop := ∃ p ∈ ps, p.1 ≤ x ∧ x ≤ p.2
theorem gI (x : Int) : ¬ cX [] x := fun ⟨p, h, _⟩ => by cases h
theorem uF {p : Sp} {r : List Sp} {x : Int} : cX (p :: r) x ↔ (p.1 ≤ x ∧ x ≤ p.2) ∨ cX r x := by
  constructor
  · rintro ⟨q, hq, h⟩
    rcases List.mem_cons.1 hq with rfl | hq
    · exact .inl h
    · exact .inr ⟨q, hq, h⟩
  · rintro (h | ⟨q, hq, h⟩)
    · exact ⟨p, kb0 .., h⟩
    · exact ⟨q, kb8 _ hq, h⟩
theorem k1x : ∀ {ps : List Sp}, jQ ps → ∀ p ∈ ps, fZ p
  | [], _, p, hp => by cases hp
  | q :: r, h, p, hp => by
    rcases List.mem_cons.1 hp with rfl | hp
    · exact h.1
    · exact k1x h.2.2 p hp
theorem fJ {p : Sp} {r : List Sp} (h : ∀ q ∈ r, p.2 + 1 < q.1) {x : Int} (hx : cX r x) : p.2 + 1 < x := by
  obtain ⟨q, hq, h1, _⟩ := hx
  have := h q hq; omega
theorem k1z : ∀ {a b : List Sp}, jQ a → jQ b → (∀ x, cX a x ↔ cX b x) → a = b
  | [], [], _, _, _ => rfl
  | [], q :: r, _, hb, h => absurd ((h q.1).2 (uF.2 (.inl ⟨kf9 _, hb.1.2.1⟩))) (gI _)
  | p :: r, [], ha, _, h => absurd ((h p.1).1 (uF.2 (.inl ⟨kf9 _, ha.1.2.1⟩))) (gI _)
  | p :: r, q :: s, ha, hb, h => by
    have m1 : cX (p :: r) p.1 := uF.2 (.inl ⟨kf9 _, ha.1.2.1⟩)
    have m2 : cX (q :: s) q.1 := uF.2 (.inl ⟨kf9 _, hb.1.2.1⟩)
    have v1 := ha.1; have v2 := hb.1
    unfold fZ at v1 v2
    have e1 : p.1 = q.1 := by
      have n1 := uF.1 ((h _).1 m1)
      have n2 := uF.1 ((h _).2 m2)
      have g1 : cX s p.1 → q.2 + 1 < p.1 := fJ hb.2.1
      have g2 : cX r q.1 → p.2 + 1 < q.1 := fJ ha.2.1
      rcases n1 with n1 | n1
      · rcases n2 with n2 | n2
        · omega
        · have := g2 n2; omega
      · have := g1 n1
        rcases n2 with n2 | n2
        · omega
        · have := g2 n2; omega
    have no1 : ¬ cX (p :: r) (p.2 + 1) := fun hh => by
      rcases uF.1 hh with hh | hh
      · omega
      · have := fJ ha.2.1 hh; omega
    have no2 : ¬ cX (q :: s) (q.2 + 1) := fun hh => by
      rcases uF.1 hh with hh | hh
      · omega
      · have := fJ hb.2.1 hh; omega
    have e2 : p.2 = q.2 := by
      rcases Int.lt_trichotomy p.2 q.2 with hlt | heq | hgt
      · exact absurd ((h (p.2 + 1)).2 (uF.2 (.inl ⟨by omega, by omega⟩))) no1
      · exact heq
      · exact absurd ((h (q.2 + 1)).1 (uF.2 (.inl ⟨by omega, by omega⟩))) no2
    obtain ⟨a, b⟩ := p
    obtain ⟨c, d⟩ := q
    obtain rfl : a = c := e1
    obtain rfl : b = d := e2
    congr 1
    refine k1z ha.2.2 hb.2.2 fun x => ?_
    have hx := h x
    rw [uF, uF] at hx
    constructor
    · intro hr
      have := fJ ha.2.1 hr
      rcases hx.1 (.inr hr) with h9 | h9
      · exfalso; simp only at this h9; omega
      · exact h9
    · intro hr
      have := fJ hb.2.1 hr
      rcases hx.2 (.inr hr) with h9 | h9
      · exfalso; simp only at this h9; omega
      · exact h9
/-! spans that are joined: the last span first -/
def fI (o : List Sp) (x : Sp) : List Sp := match o with
  | [] => [x]
  | l :: r => if x.1 ≤ l.2 + 1 then (l.1, max l.2 x.2) :: r else x :: l :: r
def okR : List Sp → Prop
  | [] => True
  | p :: r => fZ p ∧ (∀ q ∈ r, q.2 + 1 < p.1) ∧ okR r
theorem xC : ∀ {o : List Sp} {r : List Sp}, okR o → jQ r → (∀ p ∈ o, ∀ q ∈ r, p.2 + 1 < q.1) → jQ (o.reverse ++ r)
  | [], r, _, h, _ => h
  | p :: o, r, ho, hr, h => by
    rw [kf5, kb7]
    refine xC ho.2.2 ⟨ho.1, fun q hq => h p (kb0 ..) q hq, hr⟩ fun a ha b hb => ?_
    rcases List.mem_cons.1 hb with rfl | hb
    · exact ho.2.1 a ha
    · exact h a (kb8 _ ha) b hb
theorem k9z (o : List Sp) (x : Sp) : (fI o x).length ≤ o.length + 1 := by
  unfold fI
  cases o with
  | nil => exact kc9 _
  | cons l r => show (if _ then _ else _ : List Sp).length ≤ _; split <;> simp
theorem u39 {o : List Sp} {x : Sp} (h : okR o) (hx : fZ x) (hl : ∀ l r, o = l :: r → l.1 ≤ x.1) : okR (fI o x) := by
  cases o with
  | nil => exact ⟨hx, fun q hq => (by cases hq), trivial⟩
  | cons l r =>
    have h1 := hl l r rfl
    have hv := h.1
    unfold fZ at hv hx
    show okR (if _ then _ else _)
    split
    · refine ⟨⟨hv.1, ?_, ?_⟩, h.2.1, h.2.2⟩
      · show l.1 ≤ max l.2 x.2; omega
      · show max l.2 x.2 ≤ _; omega
    · refine ⟨hx, fun q hq => ?_, h⟩
      rcases List.mem_cons.1 hq with rfl | hq
      · omega
      · have := h.2.1 q hq; omega
theorem u3a {o : List Sp} {x : Sp} (h : okR o) (hx : fZ x) (hl : ∀ l r, o = l :: r → l.1 ≤ x.1) (z : Int) : cX (fI o x) z ↔ cX o z ∨ (x.1 ≤ z ∧ z ≤ x.2) := by
  cases o with
  | nil => show cX [x] z ↔ _; rw [uF]; exact or_comm
  | cons l r =>
    have h1 := hl l r rfl
    have hv := h.1
    unfold fZ at hv hx
    show cX (if _ then _ else _) z ↔ _
    split
    · rw [uF, uF]
      show (l.1 ≤ z ∧ z ≤ max l.2 x.2) ∨ _ ↔ _
      constructor
      · rintro (h9 | h9)
        · by_cases h8 : z ≤ l.2
          · exact .inl (.inl ⟨h9.1, h8⟩)
          · exact .inr ⟨by omega, by omega⟩
        · exact .inl (.inr h9)
      · rintro ((h9 | h9) | h9)
        · exact .inl ⟨h9.1, by omega⟩
        · exact .inr h9
        · exact .inl ⟨by omega, by omega⟩
    · rw [uF]; exact or_comm
theorem k5x {o : List Sp} {x : Sp} (hl : ∀ l r, o = l :: r → l.1 ≤ x.1) : ∀ l r, fI o x = l :: r → l.1 ≤ x.1 := by
  intro l r e
  cases o with
  | nil => have e : [x] = l :: r := e; cases e; exact kf9 _
  | cons a s =>
    have h1 := hl a s rfl
    have e : (if x.1 ≤ a.2 + 1 then (a.1, max a.2 x.2) :: s else x :: a :: s) = l :: r := e
    split at e
    · cases e; exact h1
    · cases e; exact kf9 _
def jnR (s : List Sp) : List Sp := s.foldl fI []
def srP (s : List Sp) : Prop := s.Pairwise fun a b => a.1 ≤ b.1
theorem k2h : ∀ (s o : List Sp), okR o → (∀ p ∈ s, fZ p) → srP s → (∀ l r, o = l :: r → ∀ p ∈ s, l.1 ≤ p.1) → okR (s.foldl fI o) ∧ (∀ z, cX (s.foldl fI o) z ↔ cX o z ∨ cX s z) ∧ (s.foldl fI o).length ≤ o.length + s.length
  | [], o, h, _, _, _ => ⟨h, fun z => ⟨.inl, fun h => h.elim id fun h => absurd h (gI _)⟩, kc9 _⟩
  | x :: s, o, h, hv, hs, hl => by
    have hx := hv x (kb0 ..)
    have hl1 : ∀ l r, o = l :: r → l.1 ≤ x.1 := fun l r e => hl l r e x (kb0 ..)
    obtain ⟨h1, h2⟩ := List.pairwise_cons.1 hs
    obtain ⟨i1, i2, i3⟩ := k2h s (fI o x) (u39 h hx hl1) (fun p hp => hv p (kb8 _ hp)) h2 (fun l r e p hp => by have := k5x hl1 l r e; have := h1 p hp; omega)
    refine ⟨i1, fun z => ?_, ?_⟩
    · show cX (s.foldl fI (fI o x)) z ↔ _
      rw [i2 z, u3a h hx hl1 z, uF, or_assoc]
    · show (s.foldl fI (fI o x)).length ≤ _
      have := k9z o x
      simp only [kb1]; omega
def zW (s : List Sp) : List Sp := (jnR s).reverse
theorem k2g {s : List Sp} (hv : ∀ p ∈ s, fZ p) (hs : srP s) : jQ (zW s) ∧ (∀ z, cX (zW s) z ↔ cX s z) ∧ (zW s).length ≤ s.length := by
  obtain ⟨h1, h2, h3⟩ := k2h s [] trivial hv hs (fun l r e => by cases e)
  refine ⟨?_, fun z => ?_, ?_⟩
  · have := xC (r := []) h1 trivial (fun _ _ q hq => by cases hq)
    rw [kc8] at this; exact this
  · have e : cX (zW s) z ↔ cX (jnR s) z := by
      unfold cX zW
      simp only [List.mem_reverse]
    rw [e]
    have := h2 z
    rw [show s.foldl fI [] = jnR s from rfl] at this
    rw [this]
    exact ⟨fun h => h.elim (fun h => absurd h (gI _)) id, .inr⟩
  · unfold zW jnR; rw [kc7]
    have : (s.foldl fI []).length ≤ ([] : List Sp).length + s.length := h3
    rw [kb6, Nat.zero_add] at this; exact this
theorem rD {a b : List Sp} (h : a.Perm b) (z : Int) : cX a z ↔ cX b z := by
  unfold cX
  constructor
  · rintro ⟨p, hp, h9⟩; exact ⟨p, h.mem_iff.1 hp, h9⟩
  · rintro ⟨p, hp, h9⟩; exact ⟨p, h.mem_iff.2 hp, h9⟩
theorem k66 {a b : List Sp} (h : a.Perm b) (hv : ∀ p ∈ a, fZ p) (ha : srP a) (hb : srP b) : zW a = zW b := by
  have h1 := k2g hv ha
  have h2 := k2g (s := b) (fun p hp => hv p (h.mem_iff.2 hp)) hb
  exact k1z h1.1 h2.1 fun z => (h1.2.1 z).trans ((rD h z).trans (h2.2.1 z).symm)
/-! intersections -/
def rN (p q : Sp) : List Sp := if max p.1 q.1 ≤ min p.2 q.2 then [(max p.1 q.1, min p.2 q.2)] else []
def xP (p : Sp) (b : List Sp) : List Sp := b.flatMap (rN p)
def gJ (a b : List Sp) : List Sp := a.flatMap fun p => xP p b
theorem rM {p q : Sp} (h : p.2 < q.1 ∨ q.2 < p.1) : rN p q = [] := by unfold rN; rw [if_neg (by omega)]
theorem rK {p : Sp} : ∀ {b : List Sp}, (∀ q ∈ b, p.2 < q.1 ∨ q.2 < p.1) → xP p b = []
  | [], _ => rfl
  | q :: b, h => by
    show rN p q ++ xP p b = []
    rw [rM (h q (kb0 ..)), rK fun r hr => h r (kb8 _ hr)]; rfl
theorem lO : ∀ a : List Sp, gJ a [] = []
  | [] => rfl
  | p :: a => by show xP p [] ++ gJ a [] = []; rw [lO a]; rfl
theorem k67 {x y : Sp} {a b : List Sp} (hb : jQ (y :: b)) (h : x.2 < y.2) : gJ (x :: a) (y :: b) = rN x y ++ gJ a (y :: b) := by
  show (rN x y ++ xP x b) ++ _ = _
  rw [rK fun q hq => .inl (by have := hb.2.1 q hq; omega), kc8]; rfl
theorem rL {y : Sp} {b : List Sp} : ∀ {a : List Sp}, (∀ p ∈ a, y.2 < p.1) → gJ a (y :: b) = gJ a b
  | [], _ => rfl
  | p :: a, h => by
    show (rN p y ++ xP p b) ++ gJ a (y :: b) = xP p b ++ gJ a b
    rw [rM (.inr (h p (kb0 ..))), rL fun q hq => h q (kb8 _ hq)]; rfl
theorem k2i {x y : Sp} {a b : List Sp} (ha : jQ (x :: a)) (h : ¬ x.2 < y.2) : gJ (x :: a) (y :: b) = rN x y ++ gJ (x :: a) b := by
  show (rN x y ++ xP x b) ++ gJ a (y :: b) = rN x y ++ (xP x b ++ gJ a b)
  rw [rL fun p hp => by have := ha.2.1 p hp; omega, kb7]
/-! inside -/
def ctE (p q : Sp) : Bool := decide (q.1 ≤ p.1 ∧ p.2 ≤ q.2)
/-! the nearest -/
def clP (n : Int) (p : Sp) : Int := max p.1 (min p.2 n)
def dsP (a b : Int) : Int := if b < a then a - b else b - a
def nrP (n : Int) : List Sp → Option Int → Option Int
  | [], o => o
  | p :: r, o => nrP n r (match o with
    | none => some (clP n p)
    | some v => if dsP (clP n p) n < dsP v n then some (clP n p) else some v)
/-! spans told as one list of numbers -/
def uI : List Int → List Sp
  | a :: b :: r => (a, b) :: uI r
  | _ => []
def fl : List Sp → List Int
  | [] => []
  | p :: r => p.1 :: p.2 :: fl r
theorem tD : ∀ s : List Sp, uI (fl s) = s
  | [] => rfl
  | p :: r => by show (p.1, p.2) :: uI (fl r) = p :: r; rw [tD r]
theorem dS : ∀ s : List Sp, (fl s).length = s.length * 2
  | [] => rfl
  | p :: r => by show (fl r).length + 1 + 1 = (r.length + 1) * 2; rw [dS r]; omega
theorem dU : ∀ a b : List Sp, fl (a ++ b) = fl a ++ fl b
  | [], b => rfl
  | p :: a, b => by show p.1 :: p.2 :: fl (a ++ b) = p.1 :: p.2 :: (fl a ++ fl b); rw [dU a b]
theorem i9 : ∀ (n : Nat) (l : List Int), l.length = n * 2 → fl (uI l) = l
  | 0, [], _ => rfl
  | 0, _ :: _, h => by simp at h
  | n + 1, a :: b :: r, h => by
    show a :: b :: fl (uI r) = a :: b :: r
    rw [i9 n r (by simp at h; omega)]
  | n + 1, [_], h => by simp at h; omega
  | n + 1, [], h => by simp at h
theorem qU {n : Nat} {l : List Int} (h : l.length = n * 2) : (uI l).length = n := by
  have h1 := dS (uI l)
  rw [i9 n l h] at h1; omega
theorem gH {n : Nat} {a b : List Int} (h : a.length = n * 2) : uI (a ++ b) = uI a ++ uI b := by
  induction n generalizing a with
  | zero =>
    have : a = [] := kd5 (by omega)
    subst this; rfl
  | succ n ih =>
    match a, h with
    | x :: y :: r, h =>
      show (x, y) :: uI (r ++ b) = (x, y) :: (uI r ++ uI b)
      rw [ih (by simp at h; omega)]
    | [_], h => simp at h; omega
    | [], h => simp at h
theorem yO : ∀ (n : Nat) (l : List Int) (j : Nat), l.length = n * 2 → j < n → (uI l)[j]? = some (ka0 l (j * 2) 0, ka0 l (j * 2 + 1) 0)
  | n + 1, a :: b :: r, 0, _, _ => rfl
  | n + 1, a :: b :: r, j + 1, h, hj => by
    show (uI r)[j]? = _
    rw [yO n r j (by simp at h; omega) (by omega)]
    rw [show (j + 1) * 2 = j * 2 + 1 + 1 by omega]; rfl
  | n + 1, [_], _, h, _ => by simp at h; omega
  | n + 1, [], _, h, _ => by simp at h
theorem bL {n : Nat} {l : List Int} (h : l.length = n * 2) {p : Sp} : p ∈ uI l ↔ ∃ j, j < n ∧ p = (ka0 l (j * 2) 0, ka0 l (j * 2 + 1) 0) := by
  constructor
  · intro hp
    obtain ⟨j, hj, e⟩ := List.mem_iff_getElem.1 hp
    rw [qU h] at hj
    have := yO n l j h hj
    rw [ka9 (by rw [qU h]; exact hj), e] at this
    exact ⟨j, hj, Option.some.inj this⟩
  · rintro ⟨j, hj, rfl⟩
    exact kd7 (yO n l j h hj)
theorem k1f {n : Nat} {l : List Int} (h : l.length = n * 2) {k : Nat} (hk : k ≤ n) : uI (ka2 (k * 2) l) = ka2 k (uI l) := by
  have h1 := gH (n := k) (a := ka2 (k * 2) l) (b := ka7 (k * 2) l) (by rw [kb3]; omega)
  rw [kg1] at h1
  have h2 := qU (n := k) (l := ka2 (k * 2) l) (by rw [kb3]; omega)
  conv => rhs; rw [h1]
  exact (kl3 h2).symm
theorem k1g {n : Nat} {l : List Int} (h : l.length = n * 2) {k : Nat} (hk : k ≤ n) : uI (ka7 (k * 2) l) = ka7 k (uI l) := by
  have h1 := gH (n := k) (a := ka2 (k * 2) l) (b := ka7 (k * 2) l) (by rw [kb3]; omega)
  rw [kg1] at h1
  have h2 := qU (n := k) (l := ka2 (k * 2) l) (by rw [kb3]; omega)
  conv => rhs; rw [h1]
  exact (List.drop_left' h2).symm
theorem pN {n : Nat} {l : List Int} (h : l.length = n * 2) (a b : Int) : uI (l ++ [a, b]) = uI l ++ [(a, b)] := gH h
theorem vU {n : Nat} {l : List Int} (h : l.length = n * 2) {k : Nat} (hk : k < n) : ka7 k (uI l) = (ka0 l (k * 2) 0, ka0 l (k * 2 + 1) 0) :: ka7 (k + 1) (uI l) := by
  have hl := qU h
  rw [List.drop_eq_getElem_cons (by omega)]
  have := yO n l k h hk
  rw [ka9 (by omega)] at this
  rw [Option.some.inj this]
theorem vC {n : Nat} {l : List Int} (h : l.length = n * 2) {k : Nat} (hk : k < n) : ka2 (k + 1) (uI l) = ka2 k (uI l) ++ [(ka0 l (k * 2) 0, ka0 l (k * 2 + 1) 0)] := by
  rw [List.take_add_one, yO n l k h hk]; rfl
/-! valid sets -/
def vaE (l : List Int) (j : Nat) : Bool := decide (0 ≤ ka0 l (j * 2) 0 ∧ ka0 l (j * 2) 0 ≤ ka0 l (j * 2 + 1) 0 ∧ ka0 l (j * 2 + 1) 0 ≤ 2147483647 ∧ (j = 0 ∨ ka0 l ((j - 1) * 2 + 1) 0 + 1 < ka0 l (j * 2) 0))
def jN (l : List Int) (n : Nat) : Bool := decide (n ≤ 64) && (List.range n).all (vaE l)
theorem pE {l : List Int} {n : Nat} (h1 : n ≤ 64) (h : ∀ j, j < n → vaE l j = true) : jN l n = true :=
  Bool.and_eq_true_iff.2 ⟨decide_eq_true h1, List.all_eq_true.2 fun j hj => h j (List.mem_range.1 hj)⟩
theorem wN {l : List Int} {n : Nat} (h1 : ¬ n ≤ 64) : jN l n = false := by unfold jN; rw [decide_eq_false h1]; rfl
theorem wL {l : List Int} {n k : Nat} (hk : k < n) (h : vaE l k = false) : jN l n = false := by
  cases hb : jN l n with
  | false => rfl
  | true =>
    have := List.all_eq_true.1 (Bool.and_eq_true_iff.1 hb).2 k (List.mem_range.2 hk)
    rw [h] at this; cases this
theorem k1y : ∀ (s : List Sp), (∀ (j : Nat) (p : Sp), s[j]? = some p → fZ p) → (∀ (j : Nat) (p q : Sp), s[j]? = some p → s[j + 1]? = some q → p.2 + 1 < q.1) → jQ s
  | [], _, _ => trivial
  | p :: r, h1, h2 => by
    have ih := k1y r (fun j q hq => h1 (j + 1) q hq) (fun j a b ha hb => h2 (j + 1) a b ha hb)
    refine ⟨h1 0 p rfl, ?_, ih⟩
    have hp := h1 0 p rfl
    match r, ih, h2 with
    | [], _, _ => intro q hq; cases hq
    | a :: r, ih, h2 =>
      have h3 := h2 0 p a rfl rfl
      have ha := ih.1
      unfold fZ at ha
      intro q hq
      rcases List.mem_cons.1 hq with rfl | hq
      · exact h3
      · have := ih.2.1 q hq; omega
theorem xD : ∀ (s : List Sp), jQ s → ∀ (j : Nat) (p q : Sp), s[j]? = some p → s[j + 1]? = some q → p.2 + 1 < q.1
  | [], _, j, p, q, h, _ => by simp at h
  | a :: r, h, 0, p, q, hp, hq => by
    have hp : some a = some p := hp
    cases hp
    exact h.2.1 q (kd7 (show r[0]? = some q from hq))
  | a :: r, h, j + 1, p, q, hp, hq => xD r h.2.2 j p q hp hq
theorem wM {l : List Int} {n : Nat} (hl : l.length = n * 2) : jN l n = true ↔ n ≤ 64 ∧ jQ (uI l) := by
  constructor
  · intro h
    have h1 := Bool.and_eq_true_iff.1 h
    have ha : ∀ j, j < n → vaE l j = true := fun j hj => List.all_eq_true.1 h1.2 j (List.mem_range.2 hj)
    refine ⟨of_decide_eq_true h1.1, k1y _ (fun j p hp => ?_) (fun j p q hp hq => ?_)⟩
    · have hj : j < n := by have := (List.getElem?_eq_some_iff.1 hp).1; rw [qU hl] at this; exact this
      rw [yO n l j hl hj] at hp
      cases hp
      have := of_decide_eq_true (ha j hj)
      exact ⟨this.1, this.2.1, this.2.2.1⟩
    · have hj : j + 1 < n := by have := (List.getElem?_eq_some_iff.1 hq).1; rw [qU hl] at this; exact this
      rw [yO n l j hl (by omega)] at hp
      rw [yO n l (j + 1) hl hj] at hq
      cases hp; cases hq
      have := (of_decide_eq_true (ha (j + 1) hj)).2.2.2
      rw [show j + 1 - 1 = j by omega] at this
      rcases this with h9 | h9
      · omega
      · exact h9
  · rintro ⟨h1, h2⟩
    refine pE h1 fun j hj => decide_eq_true ?_
    have hv := k1x h2 _ (kd7 (yO n l j hl hj))
    refine ⟨hv.1, hv.2.1, hv.2.2, ?_⟩
    rcases kk7 j with h9 | h9
    · exact .inl h9
    · right
      have e := yO n l (j - 1) hl (by omega)
      have e2 := yO n l j hl hj
      rw [show j = j - 1 + 1 by omega] at e2
      have := xD _ h2 (j - 1) _ _ e e2
      rw [show j - 1 + 1 = j by omega] at this
      exact this
def spS (l : List Int) (n : Nat) : List Int := if jN l n = true then l else []
def spN (l : List Int) (n : Nat) : Nat := if jN l n = true then n else 0
theorem u29 {l : List Int} {n : Nat} (h : jN l n = true) : spS l n = l ∧ spN l n = n := ⟨if_pos h, if_pos h⟩
/-! spans in order, and joined -/
theorem k1h {n : Nat} {l : List Int} (h : l.length = n * 2) {j : Nat} (hj : j < n) : (uI l)[j]'(by rw [qU h]; exact hj) = (ka0 l (j * 2) 0, ka0 l (j * 2 + 1) 0) := by
  have := yO n l j h hj
  rw [ka9 (by rw [qU h]; exact hj)] at this
  exact Option.some.inj this
def RG (l : List Int) (n : Nat) : Prop := ∀ j, j < n → 0 ≤ ka0 l (j * 2) 0 ∧ ka0 l (j * 2) 0 ≤ ka0 l (j * 2 + 1) 0 ∧ ka0 l (j * 2 + 1) 0 ≤ 2147483647
theorem RG.v {l : List Int} {n : Nat} (hl : l.length = n * 2) (h : RG l n) : ∀ p ∈ uI l, fZ p := fun p hp => by
  obtain ⟨j, hj, rfl⟩ := (bL hl).1 hp
  exact h j hj
theorem k8q {l : List Int} {n : Nat} (hl : l.length = n * 2) (h : ∀ p ∈ uI l, fZ p) : RG l n := fun j hj => h _ ((bL hl).2 ⟨j, hj, rfl⟩)
def stP (s : List Sp) : List Sp := s.mergeSort fun a b => decide (a.1 ≤ b.1)
theorem cJ (s : List Sp) : (stP s).Perm s := List.mergeSort_perm _ _
theorem k0x (s : List Sp) : srP (stP s) := by
  have h := List.pairwise_mergeSort (le := fun (x y : Sp) => decide (x.1 ≤ y.1)) (fun a b c h1 h2 => decide_eq_true (by have := of_decide_eq_true h1; have := of_decide_eq_true h2; omega)) (fun a b => by
    rw [Bool.or_eq_true]
    rcases Int.le_total a.1 b.1 with h | h
    · exact .inl (decide_eq_true h)
    · exact .inr (decide_eq_true h)) s
  exact h.imp fun h => of_decide_eq_true h
def mkP (s : List Sp) : List Sp := zW (stP s)
theorem k26 {s : List Sp} (hv : ∀ p ∈ s, fZ p) : jQ (mkP s) ∧ (∀ z, cX (mkP s) z ↔ cX s z) ∧ (mkP s).length ≤ s.length := by
  obtain ⟨h1, h2, h3⟩ := k2g (s := stP s) (fun p hp => hv p ((cJ s).mem_iff.1 hp)) (k0x s)
  exact ⟨h1, fun z => (h2 z).trans (rD (cJ s) z), by rw [(cJ s).length_eq] at h3; exact h3⟩
theorem zS {s t : List Sp} (hv : ∀ p ∈ s, fZ p) (h : t.Perm s) (ht : srP t) : zW t = mkP s :=
  (k66 ((cJ s).trans h.symm) (fun p hp => hv p ((cJ s).mem_iff.1 hp)) (k0x s) ht).symm
structure SI (l : List Int) (i : Nat) (o : List Int) : Prop where
  len : o.length = i * 2
  perm : (uI o).Perm (ka2 i (uI l))
  sr : srP (uI o)
theorem SI.zero (l : List Int) : SI l 0 [] := ⟨rfl, List.Perm.refl _, List.Pairwise.nil⟩
theorem SI.rg {l o : List Int} {n i : Nat} (h : SI l i o) (hl : l.length = n * 2) (hi : i ≤ n) (hr : RG l n) : RG o i :=
  k8q h.len fun p hp => hr.v hl p (kg9 (h.perm.mem_iff.1 hp))
theorem nB {s : List Sp} (h : srP s) {i j : Nat} {p q : Sp} (hij : i ≤ j) (hp : s[i]? = some p) (hq : s[j]? = some q) : p.1 ≤ q.1 := by
  obtain ⟨h1, rfl⟩ := List.getElem?_eq_some_iff.1 hp
  obtain ⟨h2, rfl⟩ := List.getElem?_eq_some_iff.1 hq
  rcases kj6 i j with h9 | h9
  · exact List.pairwise_iff_getElem.1 h i j h1 h2 h9
  · have e : i = j := by omega
    subst e; exact kf9 _
theorem SI.step {l o q : List Int} {n i k : Nat} {a b : Int} (h : SI l i o) (hl : l.length = n * 2) (hi : i < n) (ha : a = ka0 l (i * 2) 0) (hb : b = ka0 l (i * 2 + 1) 0) (hk : k ≤ i) (h1 : ∀ j, k ≤ j → j < i → a < ka0 o (j * 2) 0) (h2 : k = 0 ∨ ka0 o ((k - 1) * 2) 0 ≤ a) (hq : q = ka2 (k * 2) o ++ [a, b] ++ ka7 (k * 2) o) : SI l (i + 1) q := by
  have e : uI q = ka2 k (uI o) ++ [(a, b)] ++ ka7 k (uI o) := by
    rw [hq, gH (n := k + 1) (by rw [ka4, kb3, h.len]; simp only [kb1, kb6]; omega), pN (n := k) (by rw [kb3, h.len]; omega), k1f h.len hk, k1g h.len hk]
  refine ⟨?_, ?_, ?_⟩
  · rw [hq]; simp only [ka4, kb3, kb2, kb1, kb6, h.len]; omega
  · rw [e, vC hl hi, ← ha, ← hb, kb7]
    refine (List.Perm.append_left _ List.perm_append_comm).trans ?_
    rw [← kb7, kg1]
    exact h.perm.append_right _
  · have hg : ∀ j, j < i → (uI o)[j]? = some (ka0 o (j * 2) 0, ka0 o (j * 2 + 1) 0) := fun j hj => yO i o j h.len hj
    rw [e, srP, kb7, List.pairwise_append]
    refine ⟨h.sr.sublist (List.take_sublist _ _), List.Pairwise.cons (fun x hx => ?_) (h.sr.sublist (List.drop_sublist _ _)), fun x hx y hy => ?_⟩
    · obtain ⟨j, hj, e2⟩ := List.mem_iff_getElem?.1 hx |>.elim fun j hj => (⟨j, (List.getElem?_eq_some_iff.1 hj).1, hj⟩ : ∃ j, j < (ka7 k (uI o)).length ∧ (ka7 k (uI o))[j]? = some x)
      rw [kb2, qU h.len] at hj
      rw [ke6, hg _ (by omega)] at e2
      cases e2
      have := h1 (k + j) (by omega) (by omega)
      show a ≤ _; omega
    · obtain ⟨j, hj⟩ := List.mem_iff_getElem?.1 hx
      have hj2 := (List.getElem?_eq_some_iff.1 hj).1
      rw [kb3, qU h.len] at hj2
      rw [List.getElem?_take, if_pos (by omega)] at hj
      have hxa : x.1 ≤ a := by
        rcases h2 with h2 | h2
        · omega
        · have := nB h.sr (show j ≤ k - 1 by omega) hj (hg (k - 1) (by omega))
          exact Int.le_trans this h2
      rcases List.mem_cons.1 (show y ∈ (a, b) :: ka7 k (uI o) from hy) with rfl | hy
      · exact hxa
      · obtain ⟨m, hm⟩ := List.mem_iff_getElem?.1 hy
        have hm2 := (List.getElem?_eq_some_iff.1 hm).1
        rw [kb2, qU h.len] at hm2
        rw [ke6, hg _ (by omega)] at hm
        cases hm
        have := h1 (k + m) (by omega) (by omega)
        show x.1 ≤ _; omega
theorem SI.all {l o : List Int} {n i : Nat} (h : SI l i o) (hl : l.length = n * 2) (hi : n ≤ i) : (uI o).Perm (uI l) := by
  have := h.perm
  rw [kc3 (by rw [qU hl]; exact hi)] at this
  exact this
def MG (o : List Int) (i : Nat) (k : Nat) (out : List Int) : Prop := out = fl ((ka2 i (uI o)).foldl fI []).reverse ∧ ((ka2 i (uI o)).foldl fI []).length = k
theorem MG.zero (o : List Int) : MG o 0 0 [] := ⟨rfl, rfl⟩
theorem MG.len {o out : List Int} {i k : Nat} (h : MG o i k out) : out.length = k * 2 := by rw [h.1, dS, kc7, h.2]
theorem u0a (r : List Sp) (l : Sp) (v : Int) : List.set (fl (r ++ [l])) (r.length * 2 + 1) v = fl (r ++ [(l.1, v)]) := by
  rw [dU, dU, ← dS r, List.set_append_right _ _ (by omega), show (fl r).length + 1 - (fl r).length = 1 by omega]; rfl
theorem k6h (r : List Sp) (l : Sp) : ka0 (fl (r ++ [l])) (r.length * 2 + 1) 0 = l.2 := by
  rw [dU, List.getD_eq_getElem?_getD, ← dS r, List.getElem?_append_right (by omega), show (fl r).length + 1 - (fl r).length = 1 by omega]; rfl
theorem MG.last {o out : List Int} {i k : Nat} (h : MG o i k out) (hk : 1 ≤ k) : ∃ l r, (ka2 i (uI o)).foldl fI [] = l :: r ∧ out = fl (r.reverse ++ [l]) ∧ r.length = k - 1 ∧ ka0 out ((k - 1) * 2 + 1) 0 = l.2 := by
  obtain ⟨h1, h2⟩ := h
  cases e : (ka2 i (uI o)).foldl fI [] with
  | nil => rw [e] at h2; simp at h2; omega
  | cons l r =>
    rw [e] at h1 h2
    rw [kf5] at h1
    have h3 : r.length = k - 1 := by simp at h2; omega
    refine ⟨l, r, rfl, h1, h3, ?_⟩
    rw [h1, ← h3, ← (kc7 : r.reverse.length = r.length)]; exact k6h _ _
theorem MG.next {o : List Int} {n i : Nat} (hl : o.length = n * 2) (hi : i < n) : (ka2 (i + 1) (uI o)).foldl fI [] = fI ((ka2 i (uI o)).foldl fI []) (ka0 o (i * 2) 0, ka0 o (i * 2 + 1) 0) := by
  rw [vC hl hi, List.foldl_append]; rfl
theorem MG.new {o out q : List Int} {n i k : Nat} {a b : Int} (h : MG o i k out) (hl : o.length = n * 2) (hi : i < n) (ha : a = ka0 o (i * 2) 0) (hb : b = ka0 o (i * 2 + 1) 0) (h2 : k = 0 ∨ ka0 out ((k - 1) * 2 + 1) 0 + 1 < a) (hq : q = out ++ [a, b]) : MG o (i + 1) (k + 1) q := by
  unfold MG
  rw [MG.next hl hi, ← ha, ← hb, hq]
  rcases kk7 k with h0 | h0
  · have h3 := h.2
    rw [h0] at h3
    have e := kd5 h3
    rw [h.1, e]; subst h0; exact ⟨rfl, rfl⟩
  · obtain ⟨l, r, e, e1, e2, e3⟩ := h.last h0
    rw [e]
    have h4 : l.2 + 1 < a := by
      rcases h2 with h2 | h2
      · omega
      · rw [e3] at h2; exact h2
    have e5 : fI (l :: r) (a, b) = (a, b) :: l :: r := by
      show (if a ≤ l.2 + 1 then _ else _) = _
      rw [if_neg (by omega)]
    rw [e5, e1]
    refine ⟨?_, by simp only [kb1]; omega⟩
    rw [kf5, kf5, dU (r.reverse ++ [l])]; rfl
theorem MG.join {o out q : List Int} {n i k : Nat} {a b v : Int} (h : MG o i k out) (hl : o.length = n * 2) (hi : i < n) (ha : a = ka0 o (i * 2) 0) (hb : b = ka0 o (i * 2 + 1) 0) (hk : 1 ≤ k) (h2 : a ≤ ka0 out ((k - 1) * 2 + 1) 0 + 1) (hv : v = max (ka0 out ((k - 1) * 2 + 1) 0) b) (hq : q = List.set out ((k - 1) * 2 + 1) v) : MG o (i + 1) k q := by
  unfold MG
  rw [MG.next hl hi, ← ha, ← hb, hq]
  obtain ⟨l, r, e, e1, e2, e3⟩ := h.last hk
  rw [e]
  rw [e3] at h2 hv
  have e5 : fI (l :: r) (a, b) = (l.1, max l.2 b) :: r := by
    show (if a ≤ l.2 + 1 then _ else _) = _
    rw [if_pos h2]
  rw [e5, e1, ← e2]
  refine ⟨?_, by simp only [kb1]; omega⟩
  rw [← (kc7 : r.reverse.length = r.length), u0a, kf5, hv]
theorem MG.fin {o out : List Int} {n i k : Nat} (h : MG o i k out) (hl : o.length = n * 2) (hi : n ≤ i) : out = fl (zW (uI o)) ∧ (zW (uI o)).length = k := by
  unfold MG at h
  rw [kc3 (by rw [qU hl]; exact hi)] at h
  refine ⟨h.1, ?_⟩
  unfold zW jnR; rw [kc7]; exact h.2
theorem u38 : ∀ (s o : List Sp), (∀ p ∈ o, fZ p) → (∀ p ∈ s, fZ p) → ∀ p ∈ s.foldl fI o, 0 ≤ p.1 ∧ 0 ≤ p.2 ∧ p.2 ≤ 2147483647
  | [], o, h, _, p, hp => by have := h p hp; unfold fZ at this; omega
  | x :: s, o, h, hs, p, hp => by
    refine u38 s (fI o x) (fun q hq => ?_) (fun q hq => hs q (kb8 _ hq)) p hp
    have hx := hs x (kb0 ..)
    cases o with
    | nil => rw [List.mem_singleton.1 (show q ∈ [x] from hq)]; exact hx
    | cons l r =>
      have hl := h l (kb0 ..)
      have hq : q ∈ (if x.1 ≤ l.2 + 1 then (l.1, max l.2 x.2) :: r else x :: l :: r) := hq
      unfold fZ at hx hl
      split at hq
      · rcases List.mem_cons.1 hq with rfl | hq
        · exact ⟨hl.1, by show l.1 ≤ max l.2 x.2; omega, by show max l.2 x.2 ≤ _; omega⟩
        · exact h q (kb8 _ hq)
      · rcases List.mem_cons.1 hq with rfl | hq
        · exact hx
        · exact h q hq
theorem MG.hi {o out : List Int} {n i k : Nat} (h : MG o i k out) (hl : o.length = n * 2) (hr : RG o n) (hk : 1 ≤ k) : 0 ≤ ka0 out ((k - 1) * 2 + 1) 0 ∧ ka0 out ((k - 1) * 2 + 1) 0 ≤ 2147483647 := by
  obtain ⟨l, r, e, _, _, e3⟩ := h.last hk
  rw [e3]
  have := u38 (ka2 i (uI o)) [] (fun _ h => (by cases h)) (fun p hp => hr.v hl p (kg9 hp)) l (by rw [e]; exact kb0 ..)
  exact ⟨this.2.1, this.2.2⟩
/-! the functions on lists -/
def rgE (l : List Int) (j : Nat) : Bool := decide (0 ≤ ka0 l (j * 2) 0 ∧ ka0 l (j * 2) 0 ≤ ka0 l (j * 2 + 1) 0 ∧ ka0 l (j * 2 + 1) 0 ≤ 2147483647)
def rgB (l : List Int) (n : Nat) : Bool := (List.range n).all (rgE l)
theorem u2c {l : List Int} {n : Nat} (h : ∀ j, j < n → rgE l j = true) : rgB l n = true := List.all_eq_true.2 fun j hj => h j (List.mem_range.1 hj)
theorem k9b {l : List Int} {n k : Nat} (hk : k < n) (h : rgE l k = false) : rgB l n = false := by
  cases hb : rgB l n with
  | false => rfl
  | true => have := List.all_eq_true.1 hb k (List.mem_range.2 hk); rw [h] at this; cases this
theorem iG {l : List Int} {n : Nat} : rgB l n = true ↔ RG l n := ⟨fun h j hj => of_decide_eq_true (List.all_eq_true.1 h j (List.mem_range.2 hj)), fun h => u2c fun j hj => decide_eq_true (h j hj)⟩
def oY (l : List Int) : List Int := fl (mkP (uI l))
def iY (l : List Int) : Nat := (mkP (uI l)).length
theorem tQ (l : List Int) : (oY l).length = iY l * 2 := dS _
theorem k85 {l : List Int} {n : Nat} (hl : l.length = n * 2) (hr : RG l n) : iY l ≤ n := by
  have := (k26 (hr.v hl)).2.2
  rw [qU hl] at this; exact this
theorem u03 {l o out : List Int} {n k : Nat} (hl : l.length = n * 2) (hr : RG l n) (ho : o.length = n * 2) (hp : (uI o).Perm (uI l)) (hs : srP (uI o)) (h : MG o n k out) : out = oY l ∧ iY l = k := by
  obtain ⟨h1, h2⟩ := h.fin ho (kc9 _)
  rw [zS (hr.v hl) hp hs] at h1 h2
  exact ⟨h1, h2⟩
def j4 (l : List Int) (n : Nat) : Int := if rgB l n = true then (if iY l ≤ 64 then 0 else 3) else 2
def bU (l : List Int) (n : Nat) : List Int := if rgB l n = true ∧ iY l ≤ 64 then oY l else []
def yG (l : List Int) (n : Nat) : Nat := if rgB l n = true ∧ iY l ≤ 64 then iY l else 0
theorem tP {l : List Int} {n : Nat} (h : rgB l n = false) : j4 l n = 2 ∧ bU l n = [] ∧ yG l n = 0 := by
  unfold j4 bU yG; rw [h]
  exact ⟨if_neg kh8, if_neg fun h => absurd h.1 kh8, if_neg fun h => absurd h.1 kh8⟩
theorem k9x {l : List Int} {n : Nat} (h : rgB l n = true) (h2 : 64 < iY l) : j4 l n = 3 ∧ bU l n = [] ∧ yG l n = 0 := by
  unfold j4 bU yG
  rw [if_pos h]
  exact ⟨if_neg (by omega), if_neg fun h => by omega, if_neg fun h => by omega⟩
theorem xK {l : List Int} {n : Nat} (h : rgB l n = true) (h2 : iY l ≤ 64) : j4 l n = 0 ∧ bU l n = oY l ∧ yG l n = iY l := by
  unfold j4 bU yG
  rw [if_pos h]
  exact ⟨if_pos h2, if_pos ⟨h, h2⟩, if_pos ⟨h, h2⟩⟩
theorem eC (l : List Int) (n : Nat) : (bU l n).length = yG l n * 2 := by
  unfold bU yG; split
  · exact tQ l
  · rfl
theorem iW (l : List Int) (n : Nat) : (0 ≤ j4 l n ∧ j4 l n ≤ 3) ∧ yG l n ≤ 64 := by
  constructor
  · unfold j4; (repeat' split) <;> omega
  · unfold yG; split <;> omega
theorem k27 {l : List Int} {n : Nat} (hl : l.length = n * 2) : jQ (uI (bU l n)) := by
  unfold bU; split
  · rename_i h; unfold oY; rw [tD]; exact (k26 ((iG.1 h.1).v hl)).1
  · trivial
theorem k9y {l : List Int} {n : Nat} (hl : l.length = n * 2) : jN (bU l n) (yG l n) = true := (wM (eC l n)).2 ⟨(iW l n).2, k27 hl⟩
/-! inside -/
def coB (b : List Int) (p q : Int) : Bool := (uI b).any (ctE (p, q))
/-! the nearest -/
def NR (n : Int) (l : List Int) (i : Nat) (b : Int) (f : Bool) : Prop := nrP n (ka2 i (uI l)) none = (if f = true then some b else none) ∧ (f = false → b = 0)
theorem NR.zero (n : Int) (l : List Int) : NR n l 0 0 false := ⟨rfl, fun _ => rfl⟩
def neV (n : Int) (l : List Int) : Int := (nrP n (uI l) none).getD 0
def nrF (n : Int) (l : List Int) : Bool := (nrP n (uI l) none).isSome
theorem NR.fin {n : Int} {l : List Int} {i m : Nat} {b : Int} {f : Bool} (h : NR n l i b f) (hl : l.length = m * 2) (hi : m ≤ i) : neV n l = b ∧ nrF n l = f := by
  have h1 := h.1
  rw [kc3 (by rw [qU hl]; exact hi)] at h1
  unfold neV nrF
  rw [h1]
  cases f with
  | true => exact ⟨rfl, rfl⟩
  | false => exact ⟨(h.2 rfl).symm, rfl⟩
/-! intersections -/
def isS (a b : List Int) : List Int := fl (ka2 64 (gJ (uI a) (uI b)))
def isN (a b : List Int) : Nat := (ka2 64 (gJ (uI a) (uI b))).length
structure IX (a b : List Int) (i j k : Nat) (out : List Int) : Prop where
  ex : ∃ q, out = fl q ∧ q.length = k ∧ q ++ gJ (ka7 i (uI a)) (ka7 j (uI b)) = gJ (uI a) (uI b)
theorem IX.zero (a b : List Int) : IX a b 0 0 0 [] := ⟨[], rfl, rfl, rfl⟩
theorem IX.len {a b out : List Int} {i j k : Nat} (h : IX a b i j k out) : out.length = k * 2 := by
  obtain ⟨q, rfl, rfl, _⟩ := h; exact dS q
theorem iN : ∀ (k : Nat) {s : List Sp}, jQ s → jQ (ka7 k s)
  | 0, _, h => h
  | k + 1, [], _ => trivial
  | k + 1, p :: s, h => iN k h.2.2
theorem IX.put {a b out o : List Int} {n m i j k : Nat} {u v : Int} (h : IX a b i j k out) (ha : a.length = n * 2) (hb : b.length = m * 2) (oa : jQ (uI a)) (ob : jQ (uI b)) (hi : i < n) (hj : j < m) (hu : u = max (ka0 a (i * 2) 0) (ka0 b (j * 2) 0)) (hv : v = min (ka0 a (i * 2 + 1) 0) (ka0 b (j * 2 + 1) 0)) (ho : (u ≤ v ∧ o = out ++ [u, v]) ∨ (¬ u ≤ v ∧ o = out)) :
    (ka0 a (i * 2 + 1) 0 < ka0 b (j * 2 + 1) 0 → IX a b (i + 1) j (if u ≤ v then k + 1 else k) o) ∧ (¬ ka0 a (i * 2 + 1) 0 < ka0 b (j * 2 + 1) 0 → IX a b i (j + 1) (if u ≤ v then k + 1 else k) o) := by
  obtain ⟨q, e1, e2, e3⟩ := h
  rw [vU ha hi, vU hb hj] at e3
  have oa2 := iN i oa
  have ob2 := iN j ob
  rw [vU ha hi] at oa2
  rw [vU hb hj] at ob2
  have hE : rN (ka0 a (i * 2) 0, ka0 a (i * 2 + 1) 0) (ka0 b (j * 2) 0, ka0 b (j * 2 + 1) 0) = if u ≤ v then [(u, v)] else [] := by unfold rN; rw [hu, hv]
  have hq : o = fl (q ++ (if u ≤ v then [(u, v)] else [])) ∧ (q ++ (if u ≤ v then [(u, v)] else [])).length = if u ≤ v then k + 1 else k := by
    rcases ho with ⟨h1, h2⟩ | ⟨h1, h2⟩
    · rw [if_pos h1, if_pos h1, h2, e1, dU, ka4, e2]; exact ⟨rfl, rfl⟩
    · rw [if_neg h1, if_neg h1, h2, e1, kc8]; exact ⟨rfl, e2⟩
  constructor
  · intro hlt
    rw [k67 ob2 hlt, hE, ← vU hb hj, ← kb7] at e3
    exact ⟨_, hq.1, hq.2, e3⟩
  · intro hlt
    rw [k2i oa2 hlt, hE, ← vU ha hi, ← kb7] at e3
    exact ⟨_, hq.1, hq.2, e3⟩
theorem IX.fin {a b out : List Int} {n m i j k : Nat} (h : IX a b i j k out) (ha : a.length = n * 2) (hb : b.length = m * 2) (hk : k ≤ 64) (hf : n ≤ i ∨ m ≤ j ∨ k = 64) : out = isS a b ∧ isN a b = k := by
  obtain ⟨q, e1, e2, e3⟩ := h
  have e4 : ka2 64 (gJ (uI a) (uI b)) = q := by
    rw [← e3]
    rcases kj6 k 64 with h9 | h9
    · have e5 : gJ (ka7 i (uI a)) (ka7 j (uI b)) = [] := by
        rcases hf with hf | hf | hf
        · rw [kj4 (by rw [qU ha]; exact hf)]; rfl
        · rw [show ka7 j (uI b) = [] from kj4 (by rw [qU hb]; exact hf)]; exact lO _
        · omega
      rw [e5, kc8, kc3 (by omega)]
    · exact kl3 (by omega)
  unfold isS isN
  rw [e4]; exact ⟨e1, e2⟩
def AL (a b : List Int) (i k : Nat) (out : List Int) : Prop := out = fl (gJ (ka2 i (uI a)) (uI b)) ∧ (gJ (ka2 i (uI a)) (uI b)).length = k
def AJ (a b : List Int) (i j k : Nat) (out : List Int) : Prop := out = fl (gJ (ka2 i (uI a)) (uI b) ++ xP (ka0 a (i * 2) 0, ka0 a (i * 2 + 1) 0) (ka2 j (uI b))) ∧ (gJ (ka2 i (uI a)) (uI b) ++ xP (ka0 a (i * 2) 0, ka0 a (i * 2 + 1) 0) (ka2 j (uI b))).length = k
theorem AL.zero (a b : List Int) : AL a b 0 0 [] := ⟨rfl, rfl⟩
theorem rJ (p : Sp) (s : List Sp) (q : Sp) : xP p (s ++ [q]) = xP p s ++ rN p q := by unfold xP; rw [List.flatMap_append]; simp
theorem AJ.y {a b out o : List Int} {m i j k : Nat} {u v : Int} (h : AJ a b i j k out) (hb : b.length = m * 2) (hj : j < m) (hu : u = max (ka0 a (i * 2) 0) (ka0 b (j * 2) 0)) (hv : v = min (ka0 a (i * 2 + 1) 0) (ka0 b (j * 2 + 1) 0)) (h1 : u ≤ v) (ho : o = out ++ [u, v]) : AJ a b i (j + 1) (k + 1) o := by
  have hE : rN (ka0 a (i * 2) 0, ka0 a (i * 2 + 1) 0) (ka0 b (j * 2) 0, ka0 b (j * 2 + 1) 0) = [(u, v)] := by
    unfold rN; rw [← hu, ← hv, if_pos h1]
  unfold AJ
  rw [vC hb hj, rJ, hE, ← kb7, dU, ka4, ← h.1, h.2, ho]; exact ⟨rfl, rfl⟩
theorem AJ.n {a b out : List Int} {m i j k : Nat} (h : AJ a b i j k out) (hb : b.length = m * 2) (hj : j < m) (h1 : ¬ max (ka0 a (i * 2) 0) (ka0 b (j * 2) 0) ≤ min (ka0 a (i * 2 + 1) 0) (ka0 b (j * 2 + 1) 0)) : AJ a b i (j + 1) k out := by
  have hE : rN (ka0 a (i * 2) 0, ka0 a (i * 2 + 1) 0) (ka0 b (j * 2) 0, ka0 b (j * 2 + 1) 0) = [] := by
    unfold rN; rw [if_neg h1]
  unfold AJ
  rw [vC hb hj, rJ, hE, kc8]; exact h
theorem AL.fin {a b out : List Int} {n i k : Nat} (h : AL a b i k out) (ha : a.length = n * 2) (hi : n ≤ i) : out = fl (gJ (uI a) (uI b)) ∧ (gJ (uI a) (uI b)).length = k := by
  unfold AL at h
  rw [kc3 (by rw [qU ha]; exact hi)] at h; exact h
theorem k2n {o : List Int} {k n : Nat} {p : Int} (h : ∀ j, k ≤ j → j < n → p < ka0 o (j * 2) 0) (h1 : p < ka0 o ((k - 1) * 2) 0) (hk : 1 ≤ k) : ∀ j, k - 1 ≤ j → j < n → p < ka0 o (j * 2) 0 := fun j hj hn => by
  rcases kj6 j k with h7 | h7
  · rw [show j = k - 1 by omega]; exact h1
  · exact h j h7 hn
theorem wK {l : List Int} {k : Nat} (ha : ∀ j, j < k → vaE l j = true) (h : 1 ≤ k) : 0 ≤ ka0 l ((k - 1) * 2 + 1) 0 ∧ ka0 l ((k - 1) * 2 + 1) 0 ≤ 2147483647 := by
  have := of_decide_eq_true (ha (k - 1) (by omega)); omega
def sS (a b : List Int) : Bool := decide (a = b)
theorem k92 {a b : List Int} (h : a = b) : sS a b = true := decide_eq_true h
theorem k0v {a b : List Int} {n m : Nat} (ha : a.length = n * 2) (hb : b.length = m * 2) (h : ¬ n = m) : sS a b = false := decide_eq_false fun e => by rw [e] at ha; omega
theorem k0u {a b : List Int} {k : Nat} (h : ¬ (ka0 a (k * 2) 0 = ka0 b (k * 2) 0 ∧ ka0 a (k * 2 + 1) 0 = ka0 b (k * 2 + 1) 0)) : sS a b = false := decide_eq_false fun e => h (by rw [e]; exact ⟨rfl, rfl⟩)
theorem k0t {a b : List Int} {n m : Nat} (ha : a.length = n * 2) (hb : b.length = m * 2) (hnm : n = m) (h : ∀ j, j < n → ka0 a (j * 2) 0 = ka0 b (j * 2) 0 ∧ ka0 a (j * 2 + 1) 0 = ka0 b (j * 2 + 1) 0) : sS a b = true := by
  subst hnm
  refine k92 ?_
  rw [← i9 n a ha, ← i9 n b hb]
  congr 1
  refine List.ext_getElem (by rw [qU ha, qU hb]) fun i h1 h2 => ?_
  rw [qU ha] at h1
  rw [k1h ha h1, k1h hb h1, (h i h1).1, (h i h1).2]
theorem IX.rn {a b out : List Int} {n m i j k : Nat} (h : IX a b i j k out) (ha : a.length = n * 2) (hb : b.length = m * 2) (oa : jQ (uI a)) (ob : jQ (uI b)) (hi : i < n) (hj : j < m) (h1 : ¬ max (ka0 a (i * 2) 0) (ka0 b (j * 2) 0) ≤ min (ka0 a (i * 2 + 1) 0) (ka0 b (j * 2 + 1) 0)) (h2 : ¬ ka0 a (i * 2 + 1) 0 < ka0 b (j * 2 + 1) 0) : IX a b i (j + 1) k out := by
  have h9 := (h.put ha hb oa ob hi hj rfl rfl (.inr ⟨h1, rfl⟩)).2 h2
  rw [if_neg h1] at h9; exact h9
def CJ (b : List Int) (u v : Int) (j : Nat) (f : Bool) : Prop := f = (ka2 j (uI b)).any (ctE (u, v))
theorem CJ.zero (b : List Int) (u v : Int) : CJ b u v 0 false := rfl
theorem CJ.yes {b : List Int} {u v : Int} {j m : Nat} (h : CJ b u v j false) (hb : b.length = m * 2) (hj : j < m) (h1 : ka0 b (j * 2) 0 ≤ u ∧ v ≤ ka0 b (j * 2 + 1) 0) : CJ b u v (j + 1) true := by
  unfold CJ at *; rw [vC hb hj, kl4, ← h]
  show true = (decide _ || false)
  rw [decide_eq_true (show ka0 b (j * 2) 0 ≤ u ∧ v ≤ ka0 b (j * 2 + 1) 0 from h1)]; rfl
theorem CJ.no {b : List Int} {u v : Int} {j m : Nat} (h : CJ b u v j false) (hb : b.length = m * 2) (hj : j < m) (h1 : ¬ (ka0 b (j * 2) 0 ≤ u ∧ v ≤ ka0 b (j * 2 + 1) 0)) : CJ b u v (j + 1) false := by
  unfold CJ at *; rw [vC hb hj, kl4, ← h]
  show false = (decide _ || false)
  rw [decide_eq_false (show ¬ (ka0 b (j * 2) 0 ≤ u ∧ v ≤ ka0 b (j * 2 + 1) 0) from h1)]; rfl
theorem CJ.fin {b : List Int} {u v : Int} {j m : Nat} {f : Bool} (h : CJ b u v j f) (hb : b.length = m * 2) (hj : m ≤ j) : coB b u v = f := by
  unfold CJ at h; rw [kc3 (by rw [qU hb]; exact hj)] at h; exact h.symm
end Go.Proofs.Ytalbpleglapihaa
