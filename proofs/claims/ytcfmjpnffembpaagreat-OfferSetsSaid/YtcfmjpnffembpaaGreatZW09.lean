/- Sets of integers. No statement is proved here. -/
import Derived.Test.YtcfmjpnffembpaaGreatZLBy
namespace Go.Proofs.YtcfmjpnffembpaaGreat
open Go.ChangeShapes Go.WideShapes Go.ChangeAt Go.RowKit
open Bool renaming false_ne_true → kh4
open Int renaming le_refl → kd9
open List renaming all_eq_true → kf0, any_append → ki3, any_eq_true → ki0, append_assoc → kc9, append_nil → ke0, drop → ka3, drop_of_length_le → kj3, eq_nil_of_length_eq_zero → kd3, flatMap_append → kj5, getD → ka1, getElem?_drop → ke1, getElem?_eq_getElem → ka7, length_append → ka9, length_cons → kb0, length_drop → kb5, length_nil → kb3, length_reverse → kb9, length_take → kb2, mem_cons_of_mem → kb8, mem_cons_self → kb1, mem_of_getElem? → kd7, mem_of_mem_take → kg6, reverse_cons → kf4, take → ka5, take_append_drop → kf8, take_left' → kl0, take_of_length_le → kb6
open Nat renaming eq_zero_or_pos → kk4, le_refl → kc6, lt_or_ge → kh9, zero_le → kd8
set_option linter.unusedVariables false
set_option linter.unusedSimpArgs false
/-! sets of integers: spans as pairs -/
abbrev Sp := Int × Int
def eX (p : Sp) : Prop := 0 ≤ p.1 ∧ p.1 ≤ p.2 ∧ p.2 ≤ 2147483647
def cP : List Sp → Prop
  | [] => True
  | p :: r => eX p ∧ (∀ q ∈ r, p.2 + 1 < q.1) ∧ cP r
def d6 (ps : List Sp) (x : Int) : Prop := ∃ p ∈ ps, p.1 ≤ x ∧ x ≤ p.2
theorem fR (x : Int) : ¬ d6 [] x := fun ⟨p, h, _⟩ => by cases h
theorem uX {p : Sp} {r : List Sp} {x : Int} : d6 (p :: r) x ↔ (p.1 ≤ x ∧ x ≤ p.2) ∨ d6 r x := by
  constructor
  · rintro ⟨q, hq, h⟩
    rcases List.mem_cons.1 hq with rfl | hq
    · exact .inl h
    · exact .inr ⟨q, hq, h⟩
  · rintro (h | ⟨q, hq, h⟩)
    · exact ⟨p, kb1 .., h⟩
    · exact ⟨q, kb8 _ hq, h⟩
theorem fB : ∀ {ps : List Sp}, cP ps → ∀ p ∈ ps, eX p
  | [], _, p, hp => by cases hp
  | q :: r, h, p, hp => by
    rcases List.mem_cons.1 hp with rfl | hp
    · exact h.1
    · exact fB h.2.2 p hp
theorem jR {p : Sp} {r : List Sp} (h : ∀ q ∈ r, p.2 + 1 < q.1) {x : Int} (hx : d6 r x) : p.2 + 1 < x := by
  obtain ⟨q, hq, h1, _⟩ := hx
  have := h q hq; omega
theorem k45 : ∀ {a b : List Sp}, cP a → cP b → (∀ x, d6 a x ↔ d6 b x) → a = b
  | [], [], _, _, _ => rfl
  | [], q :: r, _, hb, h => absurd ((h q.1).2 (uX.2 (.inl ⟨kd9 _, hb.1.2.1⟩))) (fR _)
  | p :: r, [], ha, _, h => absurd ((h p.1).1 (uX.2 (.inl ⟨kd9 _, ha.1.2.1⟩))) (fR _)
  | p :: r, q :: s, ha, hb, h => by
    have m1 : d6 (p :: r) p.1 := uX.2 (.inl ⟨kd9 _, ha.1.2.1⟩)
    have m2 : d6 (q :: s) q.1 := uX.2 (.inl ⟨kd9 _, hb.1.2.1⟩)
    have v1 := ha.1; have v2 := hb.1
    unfold eX at v1 v2
    have e1 : p.1 = q.1 := by
      have n1 := uX.1 ((h _).1 m1)
      have n2 := uX.1 ((h _).2 m2)
      have g1 : d6 s p.1 → q.2 + 1 < p.1 := jR hb.2.1
      have g2 : d6 r q.1 → p.2 + 1 < q.1 := jR ha.2.1
      rcases n1 with n1 | n1
      · rcases n2 with n2 | n2
        · omega
        · have := g2 n2; omega
      · have := g1 n1
        rcases n2 with n2 | n2
        · omega
        · have := g2 n2; omega
    have no1 : ¬ d6 (p :: r) (p.2 + 1) := fun hh => by
      rcases uX.1 hh with hh | hh
      · omega
      · have := jR ha.2.1 hh; omega
    have no2 : ¬ d6 (q :: s) (q.2 + 1) := fun hh => by
      rcases uX.1 hh with hh | hh
      · omega
      · have := jR hb.2.1 hh; omega
    have e2 : p.2 = q.2 := by
      rcases Int.lt_trichotomy p.2 q.2 with hlt | heq | hgt
      · exact absurd ((h (p.2 + 1)).2 (uX.2 (.inl ⟨by omega, by omega⟩))) no1
      · exact heq
      · exact absurd ((h (q.2 + 1)).1 (uX.2 (.inl ⟨by omega, by omega⟩))) no2
    obtain ⟨a, b⟩ := p
    obtain ⟨c, d⟩ := q
    obtain rfl : a = c := e1
    obtain rfl : b = d := e2
    congr 1
    refine k45 ha.2.2 hb.2.2 fun x => ?_
    have hx := h x
    rw [uX, uX] at hx
    constructor
    · intro hr
      have := jR ha.2.1 hr
      rcases hx.1 (.inr hr) with h9 | h9
      · exfalso; simp only at this h9; omega
      · exact h9
    · intro hr
      have := jR hb.2.1 hr
      rcases hx.2 (.inr hr) with h9 | h9
      · exfalso; simp only at this h9; omega
      · exact h9
/-! spans that are joined: the last span first -/
def jQ (o : List Sp) (x : Sp) : List Sp := match o with
  | [] => [x]
  | l :: r => if x.1 ≤ l.2 + 1 then (l.1, max l.2 x.2) :: r else x :: l :: r
def okR : List Sp → Prop
  | [] => True
  | p :: r => eX p ∧ (∀ q ∈ r, q.2 + 1 < p.1) ∧ okR r
theorem k0m : ∀ {o : List Sp} {r : List Sp}, okR o → cP r → (∀ p ∈ o, ∀ q ∈ r, p.2 + 1 < q.1) → cP (o.reverse ++ r)
  | [], r, _, h, _ => h
  | p :: o, r, ho, hr, h => by
    rw [kf4, kc9]
    refine k0m ho.2.2 ⟨ho.1, fun q hq => h p (kb1 ..) q hq, hr⟩ fun a ha b hb => ?_
    rcases List.mem_cons.1 hb with rfl | hb
    · exact ho.2.1 a ha
    · exact h a (kb8 _ ha) b hb
theorem u23 (o : List Sp) (x : Sp) : (jQ o x).length ≤ o.length + 1 := by
  unfold jQ
  cases o with
  | nil => exact kc6 _
  | cons l r => show (if _ then _ else _ : List Sp).length ≤ _; split <;> simp
theorem u51 {o : List Sp} {x : Sp} (h : okR o) (hx : eX x) (hl : ∀ l r, o = l :: r → l.1 ≤ x.1) : okR (jQ o x) := by
  cases o with
  | nil => exact ⟨hx, fun q hq => (by cases hq), trivial⟩
  | cons l r =>
    have h1 := hl l r rfl
    have hv := h.1
    unfold eX at hv hx
    show okR (if _ then _ else _)
    split
    · refine ⟨⟨hv.1, ?_, ?_⟩, h.2.1, h.2.2⟩
      · show l.1 ≤ max l.2 x.2; omega
      · show max l.2 x.2 ≤ _; omega
    · refine ⟨hx, fun q hq => ?_, h⟩
      rcases List.mem_cons.1 hq with rfl | hq
      · omega
      · have := h.2.1 q hq; omega
theorem u52 {o : List Sp} {x : Sp} (h : okR o) (hx : eX x) (hl : ∀ l r, o = l :: r → l.1 ≤ x.1) (z : Int) : d6 (jQ o x) z ↔ d6 o z ∨ (x.1 ≤ z ∧ z ≤ x.2) := by
  cases o with
  | nil => show d6 [x] z ↔ _; rw [uX]; exact or_comm
  | cons l r =>
    have h1 := hl l r rfl
    have hv := h.1
    unfold eX at hv hx
    show d6 (if _ then _ else _) z ↔ _
    split
    · rw [uX, uX]
      show (l.1 ≤ z ∧ z ≤ max l.2 x.2) ∨ _ ↔ _
      constructor
      · rintro (h9 | h9)
        · by_cases h8 : z ≤ l.2
          · exact .inl (.inl ⟨h9.1, h8⟩)
          · exact .inr ⟨by omega, by omega⟩
        · exact .inl (.inr h9)
      · rintro ((h9 | h9) | h9)
        · exact .inl ⟨h9.1, by omega⟩
        · exact .inr h9
        · exact .inl ⟨by omega, by omega⟩
    · rw [uX]; exact or_comm
theorem k7z {o : List Sp} {x : Sp} (hl : ∀ l r, o = l :: r → l.1 ≤ x.1) : ∀ l r, jQ o x = l :: r → l.1 ≤ x.1 := by
  intro l r e
  cases o with
  | nil => have e : [x] = l :: r := e; cases e; exact kd9 _
  | cons a s =>
    have h1 := hl a s rfl
    have e : (if x.1 ≤ a.2 + 1 then (a.1, max a.2 x.2) :: s else x :: a :: s) = l :: r := e
    split at e
    · cases e; exact h1
    · cases e; exact kd9 _
def jnR (s : List Sp) : List Sp := s.foldl jQ []
def srP (s : List Sp) : Prop := s.Pairwise fun a b => a.1 ≤ b.1
theorem k4n : ∀ (s o : List Sp), okR o → (∀ p ∈ s, eX p) → srP s → (∀ l r, o = l :: r → ∀ p ∈ s, l.1 ≤ p.1) → okR (s.foldl jQ o) ∧ (∀ z, d6 (s.foldl jQ o) z ↔ d6 o z ∨ d6 s z) ∧ (s.foldl jQ o).length ≤ o.length + s.length
  | [], o, h, _, _, _ => ⟨h, fun z => ⟨.inl, fun h => h.elim id fun h => absurd h (fR _)⟩, kc6 _⟩
  | x :: s, o, h, hv, hs, hl => by
    have hx := hv x (kb1 ..)
    have hl1 : ∀ l r, o = l :: r → l.1 ≤ x.1 := fun l r e => hl l r e x (kb1 ..)
    obtain ⟨h1, h2⟩ := List.pairwise_cons.1 hs
    obtain ⟨i1, i2, i3⟩ := k4n s (jQ o x) (u51 h hx hl1) (fun p hp => hv p (kb8 _ hp)) h2 (fun l r e p hp => by have := k7z hl1 l r e; have := h1 p hp; omega)
    refine ⟨i1, fun z => ?_, ?_⟩
    · show d6 (s.foldl jQ (jQ o x)) z ↔ _
      rw [i2 z, u52 h hx hl1 z, uX, or_assoc]
    · show (s.foldl jQ (jQ o x)).length ≤ _
      have := u23 o x
      simp only [kb0]; omega
def jnP (s : List Sp) : List Sp := (jnR s).reverse
theorem k4m {s : List Sp} (hv : ∀ p ∈ s, eX p) (hs : srP s) : cP (jnP s) ∧ (∀ z, d6 (jnP s) z ↔ d6 s z) ∧ (jnP s).length ≤ s.length := by
  obtain ⟨h1, h2, h3⟩ := k4n s [] trivial hv hs (fun l r e => by cases e)
  refine ⟨?_, fun z => ?_, ?_⟩
  · have := k0m (r := []) h1 trivial (fun _ _ q hq => by cases hq)
    rw [ke0] at this; exact this
  · have e : d6 (jnP s) z ↔ d6 (jnR s) z := by
      unfold d6 jnP
      simp only [List.mem_reverse]
    rw [e]
    have := h2 z
    rw [show s.foldl jQ [] = jnR s from rfl] at this
    rw [this]
    exact ⟨fun h => h.elim (fun h => absurd h (fR _)) id, .inr⟩
  · unfold jnP jnR; rw [kb9]
    have : (s.foldl jQ []).length ≤ ([] : List Sp).length + s.length := h3
    rw [kb3, Nat.zero_add] at this; exact this
theorem t1 {a b : List Sp} (h : a.Perm b) (z : Int) : d6 a z ↔ d6 b z := by
  unfold d6
  constructor
  · rintro ⟨p, hp, h9⟩; exact ⟨p, h.mem_iff.1 hp, h9⟩
  · rintro ⟨p, hp, h9⟩; exact ⟨p, h.mem_iff.2 hp, h9⟩
theorem k87 {a b : List Sp} (h : a.Perm b) (hv : ∀ p ∈ a, eX p) (ha : srP a) (hb : srP b) : jnP a = jnP b := by
  have h1 := k4m hv ha
  have h2 := k4m (s := b) (fun p hp => hv p (h.mem_iff.2 hp)) hb
  exact k45 h1.1 h2.1 fun z => (h1.2.1 z).trans ((t1 h z).trans (h2.2.1 z).symm)
/-! intersections -/
def lV (p q : Sp) : List Sp := if max p.1 q.1 ≤ min p.2 q.2 then [(max p.1 q.1, min p.2 q.2)] else []
def s9 (p : Sp) (b : List Sp) : List Sp := b.flatMap (lV p)
def a8 (a b : List Sp) : List Sp := a.flatMap fun p => s9 p b
theorem wB {p q : Sp} (h : p.2 < q.1 ∨ q.2 < p.1) : lV p q = [] := by unfold lV; rw [if_neg (by omega)]
theorem t9 {p : Sp} : ∀ {b : List Sp}, (∀ q ∈ b, p.2 < q.1 ∨ q.2 < p.1) → s9 p b = []
  | [], _ => rfl
  | q :: b, h => by
    show lV p q ++ s9 p b = []
    rw [wB (h q (kb1 ..)), t9 fun r hr => h r (kb8 _ hr)]; rfl
theorem jS : ∀ a : List Sp, a8 a [] = []
  | [] => rfl
  | p :: a => by show s9 p [] ++ a8 a [] = []; rw [jS a]; rfl
theorem k0y {x y : Sp} {a b : List Sp} (hb : cP (y :: b)) (h : x.2 < y.2) : a8 (x :: a) (y :: b) = lV x y ++ a8 a (y :: b) := by
  show (lV x y ++ s9 x b) ++ _ = _
  rw [t9 fun q hq => .inl (by have := hb.2.1 q hq; omega), ke0]; rfl
theorem wA {y : Sp} {b : List Sp} : ∀ {a : List Sp}, (∀ p ∈ a, y.2 < p.1) → a8 a (y :: b) = a8 a b
  | [], _ => rfl
  | p :: a, h => by
    show (lV p y ++ s9 p b) ++ a8 a (y :: b) = s9 p b ++ a8 a b
    rw [wB (.inr (h p (kb1 ..))), wA fun q hq => h q (kb8 _ hq)]; rfl
theorem t6 {x y : Sp} {a b : List Sp} (ha : cP (x :: a)) (h : ¬ x.2 < y.2) : a8 (x :: a) (y :: b) = lV x y ++ a8 (x :: a) b := by
  show (lV x y ++ s9 x b) ++ a8 a (y :: b) = lV x y ++ (s9 x b ++ a8 a b)
  rw [wA fun p hp => by have := ha.2.1 p hp; omega, kc9]
theorem k88 (p q : Sp) : (lV p q).length ≤ 1 := by unfold lV; split <;> simp
theorem zJ : ∀ (n : Nat) (a b : List Sp), a.length + b.length ≤ n → cP a → cP b → (a8 a b).length ≤ a.length + b.length
  | _, [], b, _, _, _ => kd8 _
  | _, p :: a, [], _, _, _ => by rw [jS]; exact kd8 _
  | 0, p :: a, q :: b, h, _, _ => by simp at h
  | n + 1, x :: a, y :: b, h, ha, hb => by
    have h1 := k88 x y
    by_cases hxy : x.2 < y.2
    · rw [k0y hb hxy, ka9]
      have := zJ n a (y :: b) (by simp at h ⊢; omega) ha.2.2 hb
      simp only [kb0] at this ⊢; omega
    · rw [t6 ha hxy, ka9]
      have := zJ n (x :: a) b (by simp at h ⊢; omega) ha hb.2.2
      simp only [kb0] at this ⊢; omega
theorem fQ {p q r : Sp} : r ∈ lV p q ↔ max p.1 q.1 ≤ min p.2 q.2 ∧ r = (max p.1 q.1, min p.2 q.2) := by
  unfold lV
  split
  · rename_i h; rw [List.mem_singleton]; exact ⟨fun e => ⟨h, e⟩, fun e => e.2⟩
  · rename_i h; exact ⟨fun e => (by cases e), fun e => absurd e.1 h⟩
theorem rI {a b : List Sp} {r : Sp} : r ∈ a8 a b ↔ ∃ p ∈ a, ∃ q ∈ b, r ∈ lV p q := by
  unfold a8 s9
  simp only [List.mem_flatMap]
theorem t7 (a b : List Sp) (x : Int) : d6 (a8 a b) x ↔ d6 a x ∧ d6 b x := by
  constructor
  · rintro ⟨r, hr, h⟩
    obtain ⟨p, hp, q, hq, hr⟩ := rI.1 hr
    obtain ⟨h1, rfl⟩ := fQ.1 hr
    simp only at h
    exact ⟨⟨p, hp, by omega, by omega⟩, ⟨q, hq, by omega, by omega⟩⟩
  · rintro ⟨⟨p, hp, h1⟩, ⟨q, hq, h2⟩⟩
    exact ⟨_, rI.2 ⟨p, hp, q, hq, fQ.2 ⟨by omega, rfl⟩⟩, by simp only; omega, by simp only; omega⟩
theorem rF : ∀ {a b : List Sp}, cP a → cP b → (∀ p ∈ a, ∀ q ∈ b, p.2 + 1 < q.1) → cP (a ++ b)
  | [], b, _, hb, _ => hb
  | p :: a, b, ha, hb, h => ⟨ha.1, fun q hq => (List.mem_append.1 hq).elim (ha.2.1 q) (h p (kb1 ..) q), rF ha.2.2 hb fun r hr q hq => h r (kb8 _ hr) q hq⟩
theorem u29 {p q : Sp} (hp : eX p) (hq : eX q) : cP (lV p q) := by
  unfold lV
  unfold eX at hp hq
  split
  · exact ⟨⟨by show 0 ≤ max p.1 q.1; omega, by assumption, by show min p.2 q.2 ≤ _; omega⟩, fun _ h => (by cases h), trivial⟩
  · trivial
theorem k4p {p : Sp} (hp : eX p) : ∀ {b : List Sp}, cP b → cP (s9 p b)
  | [], _ => trivial
  | q :: b, h => by
    refine rF (u29 hp h.1) (k4p hp h.2.2) fun r hr s hs => ?_
    obtain ⟨_, rfl⟩ := fQ.1 hr
    obtain ⟨t, ht, hs⟩ := List.mem_flatMap.1 hs
    obtain ⟨_, rfl⟩ := fQ.1 hs
    have := h.2.1 t ht
    simp only; omega
theorem k0x : ∀ {a b : List Sp}, cP a → cP b → cP (a8 a b)
  | [], _, _, _ => trivial
  | p :: a, b, ha, hb => by
    refine rF (k4p ha.1 hb) (k0x ha.2.2 hb) fun r hr s hs => ?_
    obtain ⟨q, hq, hr⟩ := List.mem_flatMap.1 hr
    obtain ⟨_, rfl⟩ := fQ.1 hr
    obtain ⟨t, ht, u, hu, hs⟩ := rI.1 hs
    obtain ⟨_, rfl⟩ := fQ.1 hs
    have := ha.2.1 t ht
    simp only; omega
/-! inside -/
def ctE (p q : Sp) : Bool := decide (q.1 ≤ p.1 ∧ p.2 ≤ q.2)
def inP (a b : List Sp) : Bool := a.all fun p => b.any (ctE p)
/-! the nearest -/
def clP (n : Int) (p : Sp) : Int := max p.1 (min p.2 n)
def bN (a b : Int) : Int := if b < a then a - b else b - a
def nrP (n : Int) : List Sp → Option Int → Option Int
  | [], o => o
  | p :: r, o => nrP n r (match o with
    | none => some (clP n p)
    | some v => if bN (clP n p) n < bN v n then some (clP n p) else some v)
/-! spans told as one list of numbers -/
def qV : List Int → List Sp
  | a :: b :: r => (a, b) :: qV r
  | _ => []
def fl : List Sp → List Int
  | [] => []
  | p :: r => p.1 :: p.2 :: fl r
theorem p8 : ∀ s : List Sp, qV (fl s) = s
  | [] => rfl
  | p :: r => by show (p.1, p.2) :: qV (fl r) = p :: r; rw [p8 r]
theorem eD : ∀ s : List Sp, (fl s).length = s.length * 2
  | [] => rfl
  | p :: r => by show (fl r).length + 1 + 1 = (r.length + 1) * 2; rw [eD r]; omega
theorem gX : ∀ a b : List Sp, fl (a ++ b) = fl a ++ fl b
  | [], b => rfl
  | p :: a, b => by show p.1 :: p.2 :: fl (a ++ b) = p.1 :: p.2 :: (fl a ++ fl b); rw [gX a b]
theorem rT : ∀ (n : Nat) (l : List Int), l.length = n * 2 → fl (qV l) = l
  | 0, [], _ => rfl
  | 0, _ :: _, h => by simp at h
  | n + 1, a :: b :: r, h => by
    show a :: b :: fl (qV r) = a :: b :: r
    rw [rT n r (by simp at h; omega)]
  | n + 1, [_], h => by simp at h; omega
  | n + 1, [], h => by simp at h
theorem q9 {n : Nat} {l : List Int} (h : l.length = n * 2) : (qV l).length = n := by
  have h1 := eD (qV l)
  rw [rT n l h] at h1; omega
theorem iF {n : Nat} {a b : List Int} (h : a.length = n * 2) : qV (a ++ b) = qV a ++ qV b := by
  induction n generalizing a with
  | zero =>
    have : a = [] := kd3 (by omega)
    subst this; rfl
  | succ n ih =>
    match a, h with
    | x :: y :: r, h =>
      show (x, y) :: qV (r ++ b) = (x, y) :: (qV r ++ qV b)
      rw [ih (by simp at h; omega)]
    | [_], h => simp at h; omega
    | [], h => simp at h
theorem v6 : ∀ (n : Nat) (l : List Int) (j : Nat), l.length = n * 2 → j < n → (qV l)[j]? = some (ka1 l (j * 2) 0, ka1 l (j * 2 + 1) 0)
  | n + 1, a :: b :: r, 0, _, _ => rfl
  | n + 1, a :: b :: r, j + 1, h, hj => by
    show (qV r)[j]? = _
    rw [v6 n r j (by simp at h; omega) (by omega)]
    rw [show (j + 1) * 2 = j * 2 + 1 + 1 by omega]; rfl
  | n + 1, [_], _, h, _ => by simp at h; omega
  | n + 1, [], _, h, _ => by simp at h
theorem v7 {n : Nat} {l : List Int} (h : l.length = n * 2) {p : Sp} : p ∈ qV l ↔ ∃ j, j < n ∧ p = (ka1 l (j * 2) 0, ka1 l (j * 2 + 1) 0) := by
  constructor
  · intro hp
    obtain ⟨j, hj, e⟩ := List.mem_iff_getElem.1 hp
    rw [q9 h] at hj
    have := v6 n l j h hj
    rw [ka7 (by rw [q9 h]; exact hj), e] at this
    exact ⟨j, hj, Option.some.inj this⟩
  · rintro ⟨j, hj, rfl⟩
    exact kd7 (v6 n l j h hj)
theorem k3p {n : Nat} {l : List Int} (h : l.length = n * 2) {k : Nat} (hk : k ≤ n) : qV (ka5 (k * 2) l) = ka5 k (qV l) := by
  have h1 := iF (n := k) (a := ka5 (k * 2) l) (b := ka3 (k * 2) l) (by rw [kb2]; omega)
  rw [kf8] at h1
  have h2 := q9 (n := k) (l := ka5 (k * 2) l) (by rw [kb2]; omega)
  conv => rhs; rw [h1]
  exact (kl0 h2).symm
theorem k3r {n : Nat} {l : List Int} (h : l.length = n * 2) {k : Nat} (hk : k ≤ n) : qV (ka3 (k * 2) l) = ka3 k (qV l) := by
  have h1 := iF (n := k) (a := ka5 (k * 2) l) (b := ka3 (k * 2) l) (by rw [kb2]; omega)
  rw [kf8] at h1
  have h2 := q9 (n := k) (l := ka5 (k * 2) l) (by rw [kb2]; omega)
  conv => rhs; rw [h1]
  exact (List.drop_left' h2).symm
theorem k3q {n : Nat} {l : List Int} (h : l.length = n * 2) (a b : Int) : qV (l ++ [a, b]) = qV l ++ [(a, b)] := iF h
theorem cA {n : Nat} {l : List Int} (h : l.length = n * 2) {k : Nat} (hk : k < n) : ka3 k (qV l) = (ka1 l (k * 2) 0, ka1 l (k * 2 + 1) 0) :: ka3 (k + 1) (qV l) := by
  have hl := q9 h
  rw [List.drop_eq_getElem_cons (by omega)]
  have := v6 n l k h hk
  rw [ka7 (by omega)] at this
  rw [Option.some.inj this]
theorem yI {n : Nat} {l : List Int} (h : l.length = n * 2) {k : Nat} (hk : k < n) : ka5 (k + 1) (qV l) = ka5 k (qV l) ++ [(ka1 l (k * 2) 0, ka1 l (k * 2 + 1) 0)] := by
  rw [List.take_add_one, v6 n l k h hk]; rfl
/-! valid sets -/
def vaE (l : List Int) (j : Nat) : Bool := decide (0 ≤ ka1 l (j * 2) 0 ∧ ka1 l (j * 2) 0 ≤ ka1 l (j * 2 + 1) 0 ∧ ka1 l (j * 2 + 1) 0 ≤ 2147483647 ∧ (j = 0 ∨ ka1 l ((j - 1) * 2 + 1) 0 + 1 < ka1 l (j * 2) 0))
def eI (l : List Int) (n : Nat) : Bool := decide (n ≤ 64) && (List.range n).all (vaE l)
theorem k32 {l : List Int} {n : Nat} (h1 : n ≤ 64) (h : ∀ j, j < n → vaE l j = true) : eI l n = true :=
  Bool.and_eq_true_iff.2 ⟨decide_eq_true h1, List.all_eq_true.2 fun j hj => h j (List.mem_range.1 hj)⟩
theorem k9t {l : List Int} {n : Nat} (h1 : ¬ n ≤ 64) : eI l n = false := by unfold eI; rw [decide_eq_false h1]; rfl
theorem oC {l : List Int} {n k : Nat} (hk : k < n) (h : vaE l k = false) : eI l n = false := by
  cases hb : eI l n with
  | false => rfl
  | true =>
    have := List.all_eq_true.1 (Bool.and_eq_true_iff.1 hb).2 k (List.mem_range.2 hk)
    rw [h] at this; cases this
theorem k44 : ∀ (s : List Sp), (∀ (j : Nat) (p : Sp), s[j]? = some p → eX p) → (∀ (j : Nat) (p q : Sp), s[j]? = some p → s[j + 1]? = some q → p.2 + 1 < q.1) → cP s
  | [], _, _ => trivial
  | p :: r, h1, h2 => by
    have ih := k44 r (fun j q hq => h1 (j + 1) q hq) (fun j a b ha hb => h2 (j + 1) a b ha hb)
    refine ⟨h1 0 p rfl, ?_, ih⟩
    have hp := h1 0 p rfl
    match r, ih, h2 with
    | [], _, _ => intro q hq; cases hq
    | a :: r, ih, h2 =>
      have h3 := h2 0 p a rfl rfl
      have ha := ih.1
      unfold eX at ha
      intro q hq
      rcases List.mem_cons.1 hq with rfl | hq
      · exact h3
      · have := ih.2.1 q hq; omega
theorem iG : ∀ (s : List Sp), cP s → ∀ (j : Nat) (p q : Sp), s[j]? = some p → s[j + 1]? = some q → p.2 + 1 < q.1
  | [], _, j, p, q, h, _ => by simp at h
  | a :: r, h, 0, p, q, hp, hq => by
    have hp : some a = some p := hp
    cases hp
    exact h.2.1 q (kd7 (show r[0]? = some q from hq))
  | a :: r, h, j + 1, p, q, hp, hq => iG r h.2.2 j p q hp hq
theorem dX {l : List Int} {n : Nat} (hl : l.length = n * 2) : eI l n = true ↔ n ≤ 64 ∧ cP (qV l) := by
  constructor
  · intro h
    have h1 := Bool.and_eq_true_iff.1 h
    have ha : ∀ j, j < n → vaE l j = true := fun j hj => List.all_eq_true.1 h1.2 j (List.mem_range.2 hj)
    refine ⟨of_decide_eq_true h1.1, k44 _ (fun j p hp => ?_) (fun j p q hp hq => ?_)⟩
    · have hj : j < n := by have := (List.getElem?_eq_some_iff.1 hp).1; rw [q9 hl] at this; exact this
      rw [v6 n l j hl hj] at hp
      cases hp
      have := of_decide_eq_true (ha j hj)
      exact ⟨this.1, this.2.1, this.2.2.1⟩
    · have hj : j + 1 < n := by have := (List.getElem?_eq_some_iff.1 hq).1; rw [q9 hl] at this; exact this
      rw [v6 n l j hl (by omega)] at hp
      rw [v6 n l (j + 1) hl hj] at hq
      cases hp; cases hq
      have := (of_decide_eq_true (ha (j + 1) hj)).2.2.2
      rw [show j + 1 - 1 = j by omega] at this
      rcases this with h9 | h9
      · omega
      · exact h9
  · rintro ⟨h1, h2⟩
    refine k32 h1 fun j hj => decide_eq_true ?_
    have hv := fB h2 _ (kd7 (v6 n l j hl hj))
    refine ⟨hv.1, hv.2.1, hv.2.2, ?_⟩
    rcases kk4 j with h9 | h9
    · exact .inl h9
    · right
      have e := v6 n l (j - 1) hl (by omega)
      have e2 := v6 n l j hl hj
      rw [show j = j - 1 + 1 by omega] at e2
      have := iG _ h2 (j - 1) _ _ e e2
      rw [show j - 1 + 1 = j by omega] at this
      exact this
def kB (l : List Int) (n : Nat) : List Int := if eI l n = true then l else []
def kK (l : List Int) (n : Nat) : Nat := if eI l n = true then n else 0
theorem tH {l : List Int} {n : Nat} (h : eI l n = true) : kB l n = l ∧ kK l n = n := ⟨if_pos h, if_pos h⟩
theorem u1j {l : List Int} {n : Nat} (h : eI l n = false) : kB l n = [] ∧ kK l n = 0 := by unfold kB kK; rw [h]; exact ⟨rfl, rfl⟩
theorem k8 {l : List Int} {n : Nat} (hl : l.length = n * 2) : (kB l n).length = kK l n * 2 := by
  unfold kB kK; split
  · exact hl
  · rfl
theorem aI {l : List Int} {n : Nat} (hl : l.length = n * 2) : cP (qV (kB l n)) := by
  cases h : eI l n with
  | true => rw [(tH h).1]; exact ((dX hl).1 h).2
  | false => rw [(u1j h).1]; trivial
theorem bD {l : List Int} {n : Nat} : kK l n ≤ 64 ∧ kK l n ≤ n := by
  unfold kK; split
  · rename_i h; exact ⟨of_decide_eq_true (Bool.and_eq_true_iff.1 h).1, kc6 _⟩
  · exact ⟨kd8 _, kd8 _⟩
/-! spans in order, and joined -/
theorem jN {n : Nat} {l : List Int} (h : l.length = n * 2) {j : Nat} (hj : j < n) : (qV l)[j]'(by rw [q9 h]; exact hj) = (ka1 l (j * 2) 0, ka1 l (j * 2 + 1) 0) := by
  have := v6 n l j h hj
  rw [ka7 (by rw [q9 h]; exact hj)] at this
  exact Option.some.inj this
def RG (l : List Int) (n : Nat) : Prop := ∀ j, j < n → 0 ≤ ka1 l (j * 2) 0 ∧ ka1 l (j * 2) 0 ≤ ka1 l (j * 2 + 1) 0 ∧ ka1 l (j * 2 + 1) 0 ≤ 2147483647
theorem RG.v {l : List Int} {n : Nat} (hl : l.length = n * 2) (h : RG l n) : ∀ p ∈ qV l, eX p := fun p hp => by
  obtain ⟨j, hj, rfl⟩ := (v7 hl).1 hp
  exact h j hj
theorem u0z {l : List Int} {n : Nat} (hl : l.length = n * 2) (h : ∀ p ∈ qV l, eX p) : RG l n := fun j hj => h _ ((v7 hl).2 ⟨j, hj, rfl⟩)
def stP (s : List Sp) : List Sp := s.mergeSort fun a b => decide (a.1 ≤ b.1)
theorem eW (s : List Sp) : (stP s).Perm s := List.mergeSort_perm _ _
theorem k3a (s : List Sp) : srP (stP s) := by
  have h := List.pairwise_mergeSort (le := fun (x y : Sp) => decide (x.1 ≤ y.1)) (fun a b c h1 h2 => decide_eq_true (by have := of_decide_eq_true h1; have := of_decide_eq_true h2; omega)) (fun a b => by
    rw [Bool.or_eq_true]
    rcases Int.le_total a.1 b.1 with h | h
    · exact .inl (decide_eq_true h)
    · exact .inr (decide_eq_true h)) s
  exact h.imp fun h => of_decide_eq_true h
def mkP (s : List Sp) : List Sp := jnP (stP s)
theorem u4z {s : List Sp} (hv : ∀ p ∈ s, eX p) : cP (mkP s) ∧ (∀ z, d6 (mkP s) z ↔ d6 s z) ∧ (mkP s).length ≤ s.length := by
  obtain ⟨h1, h2, h3⟩ := k4m (s := stP s) (fun p hp => hv p ((eW s).mem_iff.1 hp)) (k3a s)
  exact ⟨h1, fun z => (h2 z).trans (t1 (eW s) z), by rw [(eW s).length_eq] at h3; exact h3⟩
theorem k24 {s t : List Sp} (hv : ∀ p ∈ s, eX p) (h : t.Perm s) (ht : srP t) : jnP t = mkP s :=
  (k87 ((eW s).trans h.symm) (fun p hp => hv p ((eW s).mem_iff.1 hp)) (k3a s) ht).symm
structure SI (l : List Int) (i : Nat) (o : List Int) : Prop where
  len : o.length = i * 2
  perm : (qV o).Perm (ka5 i (qV l))
  sr : srP (qV o)
theorem SI.zero (l : List Int) : SI l 0 [] := ⟨rfl, List.Perm.refl _, List.Pairwise.nil⟩
theorem SI.rg {l o : List Int} {n i : Nat} (h : SI l i o) (hl : l.length = n * 2) (hi : i ≤ n) (hr : RG l n) : RG o i :=
  u0z h.len fun p hp => hr.v hl p (kg6 (h.perm.mem_iff.1 hp))
theorem rB {s : List Sp} (h : srP s) {i j : Nat} {p q : Sp} (hij : i ≤ j) (hp : s[i]? = some p) (hq : s[j]? = some q) : p.1 ≤ q.1 := by
  obtain ⟨h1, rfl⟩ := List.getElem?_eq_some_iff.1 hp
  obtain ⟨h2, rfl⟩ := List.getElem?_eq_some_iff.1 hq
  rcases kh9 i j with h9 | h9
  · exact List.pairwise_iff_getElem.1 h i j h1 h2 h9
  · have e : i = j := by omega
    subst e; exact kd9 _
theorem SI.step {l o q : List Int} {n i k : Nat} {a b : Int} (h : SI l i o) (hl : l.length = n * 2) (hi : i < n) (ha : a = ka1 l (i * 2) 0) (hb : b = ka1 l (i * 2 + 1) 0) (hk : k ≤ i) (h1 : ∀ j, k ≤ j → j < i → a < ka1 o (j * 2) 0) (h2 : k = 0 ∨ ka1 o ((k - 1) * 2) 0 ≤ a) (hq : q = ka5 (k * 2) o ++ [a, b] ++ ka3 (k * 2) o) : SI l (i + 1) q := by
  have e : qV q = ka5 k (qV o) ++ [(a, b)] ++ ka3 k (qV o) := by
    rw [hq, iF (n := k + 1) (by rw [ka9, kb2, h.len]; simp only [kb0, kb3]; omega), k3q (n := k) (by rw [kb2, h.len]; omega), k3p h.len hk, k3r h.len hk]
  refine ⟨?_, ?_, ?_⟩
  · rw [hq]; simp only [ka9, kb2, kb5, kb0, kb3, h.len]; omega
  · rw [e, yI hl hi, ← ha, ← hb, kc9]
    refine (List.Perm.append_left _ List.perm_append_comm).trans ?_
    rw [← kc9, kf8]
    exact h.perm.append_right _
  · have hg : ∀ j, j < i → (qV o)[j]? = some (ka1 o (j * 2) 0, ka1 o (j * 2 + 1) 0) := fun j hj => v6 i o j h.len hj
    rw [e, srP, kc9, List.pairwise_append]
    refine ⟨h.sr.sublist (List.take_sublist _ _), List.Pairwise.cons (fun x hx => ?_) (h.sr.sublist (List.drop_sublist _ _)), fun x hx y hy => ?_⟩
    · obtain ⟨j, hj, e2⟩ := List.mem_iff_getElem?.1 hx |>.elim fun j hj => (⟨j, (List.getElem?_eq_some_iff.1 hj).1, hj⟩ : ∃ j, j < (ka3 k (qV o)).length ∧ (ka3 k (qV o))[j]? = some x)
      rw [kb5, q9 h.len] at hj
      rw [ke1, hg _ (by omega)] at e2
      cases e2
      have := h1 (k + j) (by omega) (by omega)
      show a ≤ _; omega
    · obtain ⟨j, hj⟩ := List.mem_iff_getElem?.1 hx
      have hj2 := (List.getElem?_eq_some_iff.1 hj).1
      rw [kb2, q9 h.len] at hj2
      rw [List.getElem?_take, if_pos (by omega)] at hj
      have hxa : x.1 ≤ a := by
        rcases h2 with h2 | h2
        · omega
        · have := rB h.sr (show j ≤ k - 1 by omega) hj (hg (k - 1) (by omega))
          exact Int.le_trans this h2
      rcases List.mem_cons.1 (show y ∈ (a, b) :: ka3 k (qV o) from hy) with rfl | hy
      · exact hxa
      · obtain ⟨m, hm⟩ := List.mem_iff_getElem?.1 hy
        have hm2 := (List.getElem?_eq_some_iff.1 hm).1
        rw [kb5, q9 h.len] at hm2
        rw [ke1, hg _ (by omega)] at hm
        cases hm
        have := h1 (k + m) (by omega) (by omega)
        show x.1 ≤ _; omega
theorem SI.all {l o : List Int} {n i : Nat} (h : SI l i o) (hl : l.length = n * 2) (hi : n ≤ i) : (qV o).Perm (qV l) := by
  have := h.perm
  rw [kb6 (by rw [q9 hl]; exact hi)] at this
  exact this
def MG (o : List Int) (i : Nat) (k : Nat) (out : List Int) : Prop := out = fl ((ka5 i (qV o)).foldl jQ []).reverse ∧ ((ka5 i (qV o)).foldl jQ []).length = k
theorem MG.zero (o : List Int) : MG o 0 0 [] := ⟨rfl, rfl⟩
theorem MG.len {o out : List Int} {i k : Nat} (h : MG o i k out) : out.length = k * 2 := by rw [h.1, eD, kb9, h.2]
theorem u2k (r : List Sp) (l : Sp) (v : Int) : List.set (fl (r ++ [l])) (r.length * 2 + 1) v = fl (r ++ [(l.1, v)]) := by
  rw [gX, gX, ← eD r, List.set_append_right _ _ (by omega), show (fl r).length + 1 - (fl r).length = 1 by omega]; rfl
theorem k8j (r : List Sp) (l : Sp) : ka1 (fl (r ++ [l])) (r.length * 2 + 1) 0 = l.2 := by
  rw [gX, List.getD_eq_getElem?_getD, ← eD r, List.getElem?_append_right (by omega), show (fl r).length + 1 - (fl r).length = 1 by omega]; rfl
theorem MG.last {o out : List Int} {i k : Nat} (h : MG o i k out) (hk : 1 ≤ k) : ∃ l r, (ka5 i (qV o)).foldl jQ [] = l :: r ∧ out = fl (r.reverse ++ [l]) ∧ r.length = k - 1 ∧ ka1 out ((k - 1) * 2 + 1) 0 = l.2 := by
  obtain ⟨h1, h2⟩ := h
  cases e : (ka5 i (qV o)).foldl jQ [] with
  | nil => rw [e] at h2; simp at h2; omega
  | cons l r =>
    rw [e] at h1 h2
    rw [kf4] at h1
    have h3 : r.length = k - 1 := by simp at h2; omega
    refine ⟨l, r, rfl, h1, h3, ?_⟩
    rw [h1, ← h3, ← (kb9 : r.reverse.length = r.length)]; exact k8j _ _
theorem MG.next {o : List Int} {n i : Nat} (hl : o.length = n * 2) (hi : i < n) : (ka5 (i + 1) (qV o)).foldl jQ [] = jQ ((ka5 i (qV o)).foldl jQ []) (ka1 o (i * 2) 0, ka1 o (i * 2 + 1) 0) := by
  rw [yI hl hi, List.foldl_append]; rfl
theorem MG.new {o out q : List Int} {n i k : Nat} {a b : Int} (h : MG o i k out) (hl : o.length = n * 2) (hi : i < n) (ha : a = ka1 o (i * 2) 0) (hb : b = ka1 o (i * 2 + 1) 0) (h2 : k = 0 ∨ ka1 out ((k - 1) * 2 + 1) 0 + 1 < a) (hq : q = out ++ [a, b]) : MG o (i + 1) (k + 1) q := by
  unfold MG
  rw [MG.next hl hi, ← ha, ← hb, hq]
  rcases kk4 k with h0 | h0
  · have h3 := h.2
    rw [h0] at h3
    have e := kd3 h3
    rw [h.1, e]; subst h0; exact ⟨rfl, rfl⟩
  · obtain ⟨l, r, e, e1, e2, e3⟩ := h.last h0
    rw [e]
    have h4 : l.2 + 1 < a := by
      rcases h2 with h2 | h2
      · omega
      · rw [e3] at h2; exact h2
    have e5 : jQ (l :: r) (a, b) = (a, b) :: l :: r := by
      show (if a ≤ l.2 + 1 then _ else _) = _
      rw [if_neg (by omega)]
    rw [e5, e1]
    refine ⟨?_, by simp only [kb0]; omega⟩
    rw [kf4, kf4, gX (r.reverse ++ [l])]; rfl
theorem MG.join {o out q : List Int} {n i k : Nat} {a b v : Int} (h : MG o i k out) (hl : o.length = n * 2) (hi : i < n) (ha : a = ka1 o (i * 2) 0) (hb : b = ka1 o (i * 2 + 1) 0) (hk : 1 ≤ k) (h2 : a ≤ ka1 out ((k - 1) * 2 + 1) 0 + 1) (hv : v = max (ka1 out ((k - 1) * 2 + 1) 0) b) (hq : q = List.set out ((k - 1) * 2 + 1) v) : MG o (i + 1) k q := by
  unfold MG
  rw [MG.next hl hi, ← ha, ← hb, hq]
  obtain ⟨l, r, e, e1, e2, e3⟩ := h.last hk
  rw [e]
  rw [e3] at h2 hv
  have e5 : jQ (l :: r) (a, b) = (l.1, max l.2 b) :: r := by
    show (if a ≤ l.2 + 1 then _ else _) = _
    rw [if_pos h2]
  rw [e5, e1, ← e2]
  refine ⟨?_, by simp only [kb0]; omega⟩
  rw [← (kb9 : r.reverse.length = r.length), u2k, kf4, hv]
theorem MG.fin {o out : List Int} {n i k : Nat} (h : MG o i k out) (hl : o.length = n * 2) (hi : n ≤ i) : out = fl (jnP (qV o)) ∧ (jnP (qV o)).length = k := by
  unfold MG at h
  rw [kb6 (by rw [q9 hl]; exact hi)] at h
  refine ⟨h.1, ?_⟩
  unfold jnP jnR; rw [kb9]; exact h.2
theorem u50 : ∀ (s o : List Sp), (∀ p ∈ o, eX p) → (∀ p ∈ s, eX p) → ∀ p ∈ s.foldl jQ o, 0 ≤ p.1 ∧ 0 ≤ p.2 ∧ p.2 ≤ 2147483647
  | [], o, h, _, p, hp => by have := h p hp; unfold eX at this; omega
  | x :: s, o, h, hs, p, hp => by
    refine u50 s (jQ o x) (fun q hq => ?_) (fun q hq => hs q (kb8 _ hq)) p hp
    have hx := hs x (kb1 ..)
    cases o with
    | nil => rw [List.mem_singleton.1 (show q ∈ [x] from hq)]; exact hx
    | cons l r =>
      have hl := h l (kb1 ..)
      have hq : q ∈ (if x.1 ≤ l.2 + 1 then (l.1, max l.2 x.2) :: r else x :: l :: r) := hq
      unfold eX at hx hl
      split at hq
      · rcases List.mem_cons.1 hq with rfl | hq
        · exact ⟨hl.1, by show l.1 ≤ max l.2 x.2; omega, by show max l.2 x.2 ≤ _; omega⟩
        · exact h q (kb8 _ hq)
      · rcases List.mem_cons.1 hq with rfl | hq
        · exact hx
        · exact h q hq
theorem MG.hi {o out : List Int} {n i k : Nat} (h : MG o i k out) (hl : o.length = n * 2) (hr : RG o n) (hk : 1 ≤ k) : 0 ≤ ka1 out ((k - 1) * 2 + 1) 0 ∧ ka1 out ((k - 1) * 2 + 1) 0 ≤ 2147483647 := by
  obtain ⟨l, r, e, _, _, e3⟩ := h.last hk
  rw [e3]
  have := u50 (ka5 i (qV o)) [] (fun _ h => (by cases h)) (fun p hp => hr.v hl p (kg6 hp)) l (by rw [e]; exact kb1 ..)
  exact ⟨this.2.1, this.2.2⟩
/-! the functions on lists -/
def rgE (l : List Int) (j : Nat) : Bool := decide (0 ≤ ka1 l (j * 2) 0 ∧ ka1 l (j * 2) 0 ≤ ka1 l (j * 2 + 1) 0 ∧ ka1 l (j * 2 + 1) 0 ≤ 2147483647)
def rgB (l : List Int) (n : Nat) : Bool := (List.range n).all (rgE l)
theorem u3z {l : List Int} {n : Nat} (h : ∀ j, j < n → rgE l j = true) : rgB l n = true := List.all_eq_true.2 fun j hj => h j (List.mem_range.1 hj)
theorem u1n {l : List Int} {n k : Nat} (hk : k < n) (h : rgE l k = false) : rgB l n = false := by
  cases hb : rgB l n with
  | false => rfl
  | true => have := List.all_eq_true.1 hb k (List.mem_range.2 hk); rw [h] at this; cases this
theorem xW {l : List Int} {n : Nat} : rgB l n = true ↔ RG l n := ⟨fun h j hj => of_decide_eq_true (List.all_eq_true.1 h j (List.mem_range.2 hj)), fun h => u3z fun j hj => decide_eq_true (h j hj)⟩
def jdS (l : List Int) : List Int := fl (mkP (qV l))
def nZ (l : List Int) : Nat := (mkP (qV l)).length
theorem k4o (l : List Int) : (jdS l).length = nZ l * 2 := eD _
theorem u5c {l : List Int} {n : Nat} (hl : l.length = n * 2) (hr : RG l n) : nZ l ≤ n := by
  have := (u4z (hr.v hl)).2.2
  rw [q9 hl] at this; exact this
theorem u27 {l o out : List Int} {n k : Nat} (hl : l.length = n * 2) (hr : RG l n) (ho : o.length = n * 2) (hp : (qV o).Perm (qV l)) (hs : srP (qV o)) (h : MG o n k out) : out = jdS l ∧ nZ l = k := by
  obtain ⟨h1, h2⟩ := h.fin ho (kc6 _)
  rw [k24 (hr.v hl) hp hs] at h1 h2
  exact ⟨h1, h2⟩
def nY (l : List Int) (n : Nat) : Int := if rgB l n = true then (if nZ l ≤ 64 then 0 else 3) else 2
def fP (l : List Int) (n : Nat) : List Int := if rgB l n = true ∧ nZ l ≤ 64 then jdS l else []
def vY (l : List Int) (n : Nat) : Nat := if rgB l n = true ∧ nZ l ≤ 64 then nZ l else 0
theorem zG {l : List Int} {n : Nat} (h : rgB l n = false) : nY l n = 2 ∧ fP l n = [] ∧ vY l n = 0 := by
  unfold nY fP vY; rw [h]
  exact ⟨if_neg kh4, if_neg fun h => absurd h.1 kh4, if_neg fun h => absurd h.1 kh4⟩
theorem u22 {l : List Int} {n : Nat} (h : rgB l n = true) (h2 : 64 < nZ l) : nY l n = 3 ∧ fP l n = [] ∧ vY l n = 0 := by
  unfold nY fP vY
  rw [if_pos h]
  exact ⟨if_neg (by omega), if_neg fun h => by omega, if_neg fun h => by omega⟩
theorem k7y {l : List Int} {n : Nat} (h : rgB l n = true) (h2 : nZ l ≤ 64) : nY l n = 0 ∧ fP l n = jdS l ∧ vY l n = nZ l := by
  unfold nY fP vY
  rw [if_pos h]
  exact ⟨if_pos h2, if_pos ⟨h, h2⟩, if_pos ⟨h, h2⟩⟩
theorem lU (l : List Int) (n : Nat) : (fP l n).length = vY l n * 2 := by
  unfold fP vY; split
  · exact k4o l
  · rfl
theorem rH (l : List Int) (n : Nat) : (0 ≤ nY l n ∧ nY l n ≤ 3) ∧ vY l n ≤ 64 := by
  constructor
  · unfold nY; (repeat' split) <;> omega
  · unfold vY; split <;> omega
/-! members -/
def gI (l : List Int) (x : Int) : Bool := (qV l).any fun p => decide (p.1 ≤ x ∧ x ≤ p.2)
theorem jT {l : List Int} {x : Int} : gI l x = true ↔ d6 (qV l) x := by
  unfold gI d6
  rw [ki0]
  constructor
  · rintro ⟨p, hp, h⟩; exact ⟨p, hp, of_decide_eq_true h⟩
  · rintro ⟨p, hp, h⟩; exact ⟨p, hp, decide_eq_true h⟩
theorem k8f {l : List Int} {n k : Nat} {x : Int} (hl : l.length = n * 2) (hk : k < n) (h : ka1 l (k * 2) 0 ≤ x ∧ x ≤ ka1 l (k * 2 + 1) 0) : gI l x = true := jT.2 ⟨_, (v7 hl).2 ⟨k, hk, rfl⟩, h⟩
theorem u5j {l : List Int} {n : Nat} {x : Int} (hl : l.length = n * 2) (h : ∀ j, j < n → ¬ (ka1 l (j * 2) 0 ≤ x ∧ x ≤ ka1 l (j * 2 + 1) 0)) : gI l x = false := by
  cases hb : gI l x with
  | false => rfl
  | true =>
    obtain ⟨p, hp, h1⟩ := jT.1 hb
    obtain ⟨j, hj, rfl⟩ := (v7 hl).1 hp
    exact absurd h1 (h j hj)
/-! inside -/
def tB (b : List Int) (p q : Int) : Bool := (qV b).any (ctE (p, q))
theorem u8t {b : List Int} {m k : Nat} {p q : Int} (hl : b.length = m * 2) (hk : k < m) (h : ka1 b (k * 2) 0 ≤ p ∧ q ≤ ka1 b (k * 2 + 1) 0) : tB b p q = true := by
  unfold tB
  rw [ki0]
  exact ⟨_, (v7 hl).2 ⟨k, hk, rfl⟩, decide_eq_true h⟩
theorem u8u {b : List Int} {m : Nat} {p q : Int} (hl : b.length = m * 2) (h : ∀ j, j < m → ¬ (ka1 b (j * 2) 0 ≤ p ∧ q ≤ ka1 b (j * 2 + 1) 0)) : tB b p q = false := by
  cases hb : tB b p q with
  | false => rfl
  | true =>
    unfold tB at hb
    rw [ki0] at hb
    obtain ⟨r, hr, h1⟩ := hb
    obtain ⟨j, hj, rfl⟩ := (v7 hl).1 hr
    exact absurd (of_decide_eq_true h1) (h j hj)
def n4 (a b : List Int) : Bool := inP (qV a) (qV b)
theorem u5h {a b : List Int} {n : Nat} (hl : a.length = n * 2) (h : ∀ j, j < n → tB b (ka1 a (j * 2) 0) (ka1 a (j * 2 + 1) 0) = true) : n4 a b = true := by
  unfold n4 inP
  rw [kf0]
  intro p hp
  obtain ⟨j, hj, rfl⟩ := (v7 hl).1 hp
  exact h j hj
theorem u5i {a b : List Int} {n k : Nat} (hl : a.length = n * 2) (hk : k < n) (h : tB b (ka1 a (k * 2) 0) (ka1 a (k * 2 + 1) 0) = false) : n4 a b = false := by
  cases hb : n4 a b with
  | false => rfl
  | true =>
    unfold n4 inP at hb
    rw [kf0] at hb
    have := hb _ ((v7 hl).2 ⟨k, hk, rfl⟩)
    exact absurd (h.symm.trans this) (by decide)
/-! the nearest -/
def NR (n : Int) (l : List Int) (i : Nat) (b : Int) (f : Bool) : Prop := nrP n (ka5 i (qV l)) none = (if f = true then some b else none) ∧ (f = false → b = 0)
theorem lS (n : Int) (p : Sp) : ∀ (s : List Sp) (o : Option Int), nrP n (s ++ [p]) o = match nrP n s o with
    | none => some (clP n p)
    | some v => if bN (clP n p) n < bN v n then some (clP n p) else some v
  | [], o => rfl
  | q :: s, o => lS n p s _
theorem NR.zero (n : Int) (l : List Int) : NR n l 0 0 false := ⟨rfl, fun _ => rfl⟩
theorem NR.first {n : Int} {l : List Int} {i m : Nat} {b v : Int} (h : NR n l i b false) (hl : l.length = m * 2) (hi : i < m) (hv : v = clP n (ka1 l (i * 2) 0, ka1 l (i * 2 + 1) 0)) : NR n l (i + 1) v true := by
  refine ⟨?_, fun h => by cases h⟩
  rw [yI hl hi, lS, h.1, hv]; rfl
theorem NR.near {n : Int} {l : List Int} {i m : Nat} {b v : Int} (h : NR n l i b true) (hl : l.length = m * 2) (hi : i < m) (hv : v = clP n (ka1 l (i * 2) 0, ka1 l (i * 2 + 1) 0)) (hd : bN v n < bN b n) : NR n l (i + 1) v true := by
  refine ⟨?_, fun h => by cases h⟩
  rw [yI hl hi, lS, h.1, ← hv]
  show (if bN v n < bN b n then some v else some b) = some v
  rw [if_pos hd]
theorem NR.far {n : Int} {l : List Int} {i m : Nat} {b v : Int} (h : NR n l i b true) (hl : l.length = m * 2) (hi : i < m) (hd : ¬ bN v n < bN b n) (hv : v = clP n (ka1 l (i * 2) 0, ka1 l (i * 2 + 1) 0)) : NR n l (i + 1) b true := by
  refine ⟨?_, fun h => by cases h⟩
  rw [yI hl hi, lS, h.1, ← hv]
  show (if bN v n < bN b n then some v else some b) = some b
  rw [if_neg hd]
def uF (n : Int) (l : List Int) : Int := (nrP n (qV l) none).getD 0
def nrF (n : Int) (l : List Int) : Bool := (nrP n (qV l) none).isSome
theorem NR.fin {n : Int} {l : List Int} {i m : Nat} {b : Int} {f : Bool} (h : NR n l i b f) (hl : l.length = m * 2) (hi : m ≤ i) : uF n l = b ∧ nrF n l = f := by
  have h1 := h.1
  rw [kb6 (by rw [q9 hl]; exact hi)] at h1
  unfold uF nrF
  rw [h1]
  cases f with
  | true => exact ⟨rfl, rfl⟩
  | false => exact ⟨(h.2 rfl).symm, rfl⟩
/-! intersections -/
def uM (a b : List Int) : List Int := fl (ka5 64 (a8 (qV a) (qV b)))
def qP (a b : List Int) : Nat := (ka5 64 (a8 (qV a) (qV b))).length
theorem yM (a b : List Int) : (uM a b).length = qP a b * 2 := eD _
theorem a9 (a b : List Int) : qP a b ≤ 64 := by unfold qP; rw [kb2]; omega
structure IX (a b : List Int) (i j k : Nat) (out : List Int) : Prop where
  ex : ∃ q, out = fl q ∧ q.length = k ∧ q ++ a8 (ka3 i (qV a)) (ka3 j (qV b)) = a8 (qV a) (qV b)
theorem IX.zero (a b : List Int) : IX a b 0 0 0 [] := ⟨[], rfl, rfl, rfl⟩
theorem IX.len {a b out : List Int} {i j k : Nat} (h : IX a b i j k out) : out.length = k * 2 := by
  obtain ⟨q, rfl, rfl, _⟩ := h; exact eD q
theorem mT : ∀ (k : Nat) {s : List Sp}, cP s → cP (ka3 k s)
  | 0, _, h => h
  | k + 1, [], _ => trivial
  | k + 1, p :: s, h => mT k h.2.2
theorem IX.put {a b out o : List Int} {n m i j k : Nat} {u v : Int} (h : IX a b i j k out) (ha : a.length = n * 2) (hb : b.length = m * 2) (oa : cP (qV a)) (ob : cP (qV b)) (hi : i < n) (hj : j < m) (hu : u = max (ka1 a (i * 2) 0) (ka1 b (j * 2) 0)) (hv : v = min (ka1 a (i * 2 + 1) 0) (ka1 b (j * 2 + 1) 0)) (ho : (u ≤ v ∧ o = out ++ [u, v]) ∨ (¬ u ≤ v ∧ o = out)) :
    (ka1 a (i * 2 + 1) 0 < ka1 b (j * 2 + 1) 0 → IX a b (i + 1) j (if u ≤ v then k + 1 else k) o) ∧ (¬ ka1 a (i * 2 + 1) 0 < ka1 b (j * 2 + 1) 0 → IX a b i (j + 1) (if u ≤ v then k + 1 else k) o) := by
  obtain ⟨q, e1, e2, e3⟩ := h
  rw [cA ha hi, cA hb hj] at e3
  have oa2 := mT i oa
  have ob2 := mT j ob
  rw [cA ha hi] at oa2
  rw [cA hb hj] at ob2
  have hE : lV (ka1 a (i * 2) 0, ka1 a (i * 2 + 1) 0) (ka1 b (j * 2) 0, ka1 b (j * 2 + 1) 0) = if u ≤ v then [(u, v)] else [] := by unfold lV; rw [hu, hv]
  have hq : o = fl (q ++ (if u ≤ v then [(u, v)] else [])) ∧ (q ++ (if u ≤ v then [(u, v)] else [])).length = if u ≤ v then k + 1 else k := by
    rcases ho with ⟨h1, h2⟩ | ⟨h1, h2⟩
    · rw [if_pos h1, if_pos h1, h2, e1, gX, ka9, e2]; exact ⟨rfl, rfl⟩
    · rw [if_neg h1, if_neg h1, h2, e1, ke0]; exact ⟨rfl, e2⟩
  constructor
  · intro hlt
    rw [k0y ob2 hlt, hE, ← cA hb hj, ← kc9] at e3
    exact ⟨_, hq.1, hq.2, e3⟩
  · intro hlt
    rw [t6 oa2 hlt, hE, ← cA ha hi, ← kc9] at e3
    exact ⟨_, hq.1, hq.2, e3⟩
theorem IX.fin {a b out : List Int} {n m i j k : Nat} (h : IX a b i j k out) (ha : a.length = n * 2) (hb : b.length = m * 2) (hk : k ≤ 64) (hf : n ≤ i ∨ m ≤ j ∨ k = 64) : out = uM a b ∧ qP a b = k := by
  obtain ⟨q, e1, e2, e3⟩ := h
  have e4 : ka5 64 (a8 (qV a) (qV b)) = q := by
    rw [← e3]
    rcases kh9 k 64 with h9 | h9
    · have e5 : a8 (ka3 i (qV a)) (ka3 j (qV b)) = [] := by
        rcases hf with hf | hf | hf
        · rw [kj3 (by rw [q9 ha]; exact hf)]; rfl
        · rw [show ka3 j (qV b) = [] from kj3 (by rw [q9 hb]; exact hf)]; exact jS _
        · omega
      rw [e5, ke0, kb6 (by omega)]
    · exact kl0 (by omega)
  unfold uM qP
  rw [e4]; exact ⟨e1, e2⟩
def AL (a b : List Int) (i k : Nat) (out : List Int) : Prop := out = fl (a8 (ka5 i (qV a)) (qV b)) ∧ (a8 (ka5 i (qV a)) (qV b)).length = k
def AJ (a b : List Int) (i j k : Nat) (out : List Int) : Prop := out = fl (a8 (ka5 i (qV a)) (qV b) ++ s9 (ka1 a (i * 2) 0, ka1 a (i * 2 + 1) 0) (ka5 j (qV b))) ∧ (a8 (ka5 i (qV a)) (qV b) ++ s9 (ka1 a (i * 2) 0, ka1 a (i * 2 + 1) 0) (ka5 j (qV b))).length = k
theorem AL.zero (a b : List Int) : AL a b 0 0 [] := ⟨rfl, rfl⟩
theorem AL.in {a b out : List Int} {i k : Nat} (h : AL a b i k out) : AJ a b i 0 k out := by
  unfold AJ
  rw [show s9 (ka1 a (i * 2) 0, ka1 a (i * 2 + 1) 0) (ka5 0 (qV b)) = [] from rfl, ke0]; exact h
theorem t8 (p : Sp) (s : List Sp) (q : Sp) : s9 p (s ++ [q]) = s9 p s ++ lV p q := by unfold s9; rw [kj5]; simp
theorem k4q (s : List Sp) (p : Sp) (b : List Sp) : a8 (s ++ [p]) b = a8 s b ++ s9 p b := by unfold a8; rw [kj5]; simp
theorem AJ.y {a b out o : List Int} {m i j k : Nat} {u v : Int} (h : AJ a b i j k out) (hb : b.length = m * 2) (hj : j < m) (hu : u = max (ka1 a (i * 2) 0) (ka1 b (j * 2) 0)) (hv : v = min (ka1 a (i * 2 + 1) 0) (ka1 b (j * 2 + 1) 0)) (h1 : u ≤ v) (ho : o = out ++ [u, v]) : AJ a b i (j + 1) (k + 1) o := by
  have hE : lV (ka1 a (i * 2) 0, ka1 a (i * 2 + 1) 0) (ka1 b (j * 2) 0, ka1 b (j * 2 + 1) 0) = [(u, v)] := by
    unfold lV; rw [← hu, ← hv, if_pos h1]
  unfold AJ
  rw [yI hb hj, t8, hE, ← kc9, gX, ka9, ← h.1, h.2, ho]; exact ⟨rfl, rfl⟩
theorem AJ.n {a b out : List Int} {m i j k : Nat} (h : AJ a b i j k out) (hb : b.length = m * 2) (hj : j < m) (h1 : ¬ max (ka1 a (i * 2) 0) (ka1 b (j * 2) 0) ≤ min (ka1 a (i * 2 + 1) 0) (ka1 b (j * 2 + 1) 0)) : AJ a b i (j + 1) k out := by
  have hE : lV (ka1 a (i * 2) 0, ka1 a (i * 2 + 1) 0) (ka1 b (j * 2) 0, ka1 b (j * 2 + 1) 0) = [] := by
    unfold lV; rw [if_neg h1]
  unfold AJ
  rw [yI hb hj, t8, hE, ke0]; exact h
theorem AJ.out {a b out : List Int} {n m i j k : Nat} (h : AJ a b i j k out) (ha : a.length = n * 2) (hi : i < n) (hb : b.length = m * 2) (hj : m ≤ j) : AL a b (i + 1) k out := by
  unfold AJ at h
  rw [kb6 (l := qV b) (by rw [q9 hb]; exact hj), ← k4q, ← yI ha hi] at h
  exact h
theorem AL.fin {a b out : List Int} {n i k : Nat} (h : AL a b i k out) (ha : a.length = n * 2) (hi : n ≤ i) : out = fl (a8 (qV a) (qV b)) ∧ (a8 (qV a) (qV b)).length = k := by
  unfold AL at h
  rw [kb6 (by rw [q9 ha]; exact hi)] at h; exact h
def dN (a b : List Int) : List Int := fl (a8 (qV a) (qV b))
def qQ (a b : List Int) : Nat := (a8 (qV a) (qV b)).length
theorem bH (a b : List Int) : (dN a b).length = qQ a b * 2 := eD _
theorem k11 : ∀ (k : Nat) (s : List Sp), fl (ka5 k s) = ka5 (k * 2) (fl s)
  | 0, s => by rw [Nat.zero_mul]; rfl
  | k + 1, [] => by simp [fl]
  | k + 1, p :: s => by
    show p.1 :: p.2 :: fl (ka5 k s) = _
    rw [k11 k s, show (k + 1) * 2 = k * 2 + 1 + 1 by omega]; rfl
theorem u07 {a b : List Int} {k : Nat} (hk : k = min (qQ a b) 64) : uM a b = ka5 (k * 2) (dN a b) ∧ qP a b = k := by
  unfold uM qP dN
  rw [kb2, ← k11, hk]
  refine ⟨?_, by unfold qQ; omega⟩
  congr 1
  unfold qQ
  rcases kh9 (a8 (qV a) (qV b)).length 64 with h | h
  · rw [Nat.min_eq_left (by omega), kb6 (by omega), kb6 (kc6 _)]
  · rw [Nat.min_eq_right h]
theorem k6u {a b : List Int} {n m : Nat} (ha : a.length = n * 2) (hb : b.length = m * 2) (oa : cP (qV a)) (ob : cP (qV b)) : qQ a b ≤ n + m := by
  have := zJ _ (qV a) (qV b) (kc6 _) oa ob
  rw [q9 ha, q9 hb] at this; exact this
theorem k4v {o : List Int} {k n : Nat} {p : Int} (h : ∀ j, k ≤ j → j < n → p < ka1 o (j * 2) 0) (h1 : p < ka1 o ((k - 1) * 2) 0) (hk : 1 ≤ k) : ∀ j, k - 1 ≤ j → j < n → p < ka1 o (j * 2) 0 := fun j hj hn => by
  rcases kh9 j k with h7 | h7
  · rw [show j = k - 1 by omega]; exact h1
  · exact h j h7 hn
theorem hD {l : List Int} {k : Nat} (ha : ∀ j, j < k → vaE l j = true) (h : 1 ≤ k) : 0 ≤ ka1 l ((k - 1) * 2 + 1) 0 ∧ ka1 l ((k - 1) * 2 + 1) 0 ≤ 2147483647 := by
  have := of_decide_eq_true (ha (k - 1) (by omega)); omega
def w8 (a b : List Int) : Bool := decide (a = b)
theorem u1h {a b : List Int} (h : a = b) : w8 a b = true := decide_eq_true h
theorem u3u {a b : List Int} {n m : Nat} (ha : a.length = n * 2) (hb : b.length = m * 2) (h : ¬ n = m) : w8 a b = false := decide_eq_false fun e => by rw [e] at ha; omega
theorem u3t {a b : List Int} {k : Nat} (h : ¬ (ka1 a (k * 2) 0 = ka1 b (k * 2) 0 ∧ ka1 a (k * 2 + 1) 0 = ka1 b (k * 2 + 1) 0)) : w8 a b = false := decide_eq_false fun e => h (by rw [e]; exact ⟨rfl, rfl⟩)
theorem u3s {a b : List Int} {n m : Nat} (ha : a.length = n * 2) (hb : b.length = m * 2) (hnm : n = m) (h : ∀ j, j < n → ka1 a (j * 2) 0 = ka1 b (j * 2) 0 ∧ ka1 a (j * 2 + 1) 0 = ka1 b (j * 2 + 1) 0) : w8 a b = true := by
  subst hnm
  refine u1h ?_
  rw [← rT n a ha, ← rT n b hb]
  congr 1
  refine List.ext_getElem (by rw [q9 ha, q9 hb]) fun i h1 h2 => ?_
  rw [q9 ha] at h1
  rw [jN ha h1, jN hb h1, (h i h1).1, (h i h1).2]
theorem k9z {l : List Int} {n : Nat} (hl : l.length = n * 2) : RG (kB l n) (kK l n) := u0z (k8 hl) (fB (aI hl))
theorem IX.ly {a b out : List Int} {n m i j k : Nat} {u v : Int} (h : IX a b i j k out) (ha : a.length = n * 2) (hb : b.length = m * 2) (oa : cP (qV a)) (ob : cP (qV b)) (hi : i < n) (hj : j < m) (hu : u = max (ka1 a (i * 2) 0) (ka1 b (j * 2) 0)) (hv : v = min (ka1 a (i * 2 + 1) 0) (ka1 b (j * 2 + 1) 0)) (h1 : u ≤ v) (h2 : ka1 a (i * 2 + 1) 0 < ka1 b (j * 2 + 1) 0) : IX a b (i + 1) j (k + 1) (out ++ [u, v]) := by
  have h9 := (h.put ha hb oa ob hi hj hu hv (.inl ⟨h1, rfl⟩)).1 h2
  rw [if_pos h1] at h9; exact h9
theorem IX.ln {a b out : List Int} {n m i j k : Nat} (h : IX a b i j k out) (ha : a.length = n * 2) (hb : b.length = m * 2) (oa : cP (qV a)) (ob : cP (qV b)) (hi : i < n) (hj : j < m) (h1 : ¬ max (ka1 a (i * 2) 0) (ka1 b (j * 2) 0) ≤ min (ka1 a (i * 2 + 1) 0) (ka1 b (j * 2 + 1) 0)) (h2 : ka1 a (i * 2 + 1) 0 < ka1 b (j * 2 + 1) 0) : IX a b (i + 1) j k out := by
  have h9 := (h.put ha hb oa ob hi hj rfl rfl (.inr ⟨h1, rfl⟩)).1 h2
  rw [if_neg h1] at h9; exact h9
theorem IX.ry {a b out : List Int} {n m i j k : Nat} {u v : Int} (h : IX a b i j k out) (ha : a.length = n * 2) (hb : b.length = m * 2) (oa : cP (qV a)) (ob : cP (qV b)) (hi : i < n) (hj : j < m) (hu : u = max (ka1 a (i * 2) 0) (ka1 b (j * 2) 0)) (hv : v = min (ka1 a (i * 2 + 1) 0) (ka1 b (j * 2 + 1) 0)) (h1 : u ≤ v) (h2 : ¬ ka1 a (i * 2 + 1) 0 < ka1 b (j * 2 + 1) 0) : IX a b i (j + 1) (k + 1) (out ++ [u, v]) := by
  have h9 := (h.put ha hb oa ob hi hj hu hv (.inl ⟨h1, rfl⟩)).2 h2
  rw [if_pos h1] at h9; exact h9
theorem IX.rn {a b out : List Int} {n m i j k : Nat} (h : IX a b i j k out) (ha : a.length = n * 2) (hb : b.length = m * 2) (oa : cP (qV a)) (ob : cP (qV b)) (hi : i < n) (hj : j < m) (h1 : ¬ max (ka1 a (i * 2) 0) (ka1 b (j * 2) 0) ≤ min (ka1 a (i * 2 + 1) 0) (ka1 b (j * 2 + 1) 0)) (h2 : ¬ ka1 a (i * 2 + 1) 0 < ka1 b (j * 2 + 1) 0) : IX a b i (j + 1) k out := by
  have h9 := (h.put ha hb oa ob hi hj rfl rfl (.inr ⟨h1, rfl⟩)).2 h2
  rw [if_neg h1] at h9; exact h9
theorem dp1 {A : List Int} {i n : Nat} (h : A.length = n * 2) : dI .i64 (ka3 ((i + 1) * 2) A) = dI .i64 (ka5 ((n - i - 1) * 2) (ka3 2 (ka3 (i * 2) A))) := by
  rw [List.drop_drop, kb6 (by rw [kb5]; omega), show i * 2 + 2 = (i + 1) * 2 by omega]
/-! the first span that holds another one -/
def lY (b : List Int) (u v : Int) : Nat → Int
  | 0 => -1
  | k + 1 => if 0 ≤ lY b u v k then lY b u v k else if ka1 b (k * 2) 0 ≤ u ∧ v ≤ ka1 b (k * 2 + 1) 0 then (k : Int) else -1
theorem k18 {b : List Int} {u v : Int} {k : Nat} (h : lY b u v k = -1) (h2 : ¬ (ka1 b (k * 2) 0 ≤ u ∧ v ≤ ka1 b (k * 2 + 1) 0)) : lY b u v (k + 1) = -1 := by
  show (if 0 ≤ lY b u v k then _ else _) = _
  rw [if_neg (by omega), if_neg h2]
theorem zZ {b : List Int} {u v : Int} {k : Nat} (h : lY b u v k = -1) (h2 : ka1 b (k * 2) 0 ≤ u ∧ v ≤ ka1 b (k * 2 + 1) 0) : ∀ n, k < n → lY b u v n = (k : Int)
  | n + 1, hn => by
    by_cases hk : k = n
    · subst hk
      show (if 0 ≤ lY b u v k then _ else _) = _
      rw [if_neg (by omega), if_pos h2]
    · have := zZ h h2 n (by omega)
      show (if 0 ≤ lY b u v n then _ else _) = _
      rw [if_pos (by omega)]; exact this
theorem sE (b : List Int) (u v : Int) : ∀ n, (lY b u v n = -1 ∧ ∀ j, j < n → ¬ (ka1 b (j * 2) 0 ≤ u ∧ v ≤ ka1 b (j * 2 + 1) 0)) ∨ ∃ k, k < n ∧ lY b u v n = (k : Int) ∧ ka1 b (k * 2) 0 ≤ u ∧ v ≤ ka1 b (k * 2 + 1) 0
  | 0 => .inl ⟨rfl, fun j hj => absurd hj (Nat.not_lt_zero j)⟩
  | n + 1 => by
    rcases sE b u v n with ⟨h, h2⟩ | ⟨k, h1, h2, h3⟩
    · by_cases h9 : ka1 b (n * 2) 0 ≤ u ∧ v ≤ ka1 b (n * 2 + 1) 0
      · exact .inr ⟨n, by omega, zZ h h9 _ (by omega), h9⟩
      · exact .inl ⟨k18 h h9, fun j hj => (Nat.lt_succ_iff_lt_or_eq.1 hj).elim (h2 j) (fun e => by subst e; exact h9)⟩
    · refine .inr ⟨k, by omega, ?_, h3⟩
      show (if 0 ≤ lY b u v n then _ else _) = _
      rw [if_pos (by omega)]; exact h2
theorem u8w {b : List Int} {u v : Int} {m : Nat} (hb : b.length = m * 2) (h : 0 ≤ lY b u v m) : tB b u v = true := by
  rcases sE b u v m with ⟨h1, _⟩ | ⟨k, h1, _, h3⟩
  · omega
  · exact u8t hb h1 h3
theorem u8x {b : List Int} {u v : Int} {m : Nat} (hb : b.length = m * 2) (h : ¬ 0 ≤ lY b u v m) : tB b u v = false := by
  rcases sE b u v m with ⟨_, h1⟩ | ⟨k, _, h1, _⟩
  · exact u8u hb h1
  · omega
def CJ (b : List Int) (u v : Int) (j : Nat) (f : Bool) : Prop := f = (ka5 j (qV b)).any (ctE (u, v))
theorem CJ.zero (b : List Int) (u v : Int) : CJ b u v 0 false := rfl
theorem CJ.stay {b : List Int} {u v : Int} {j m : Nat} (h : CJ b u v j true) (hb : b.length = m * 2) (hj : j < m) : CJ b u v (j + 1) true := by
  unfold CJ at *; rw [yI hb hj, ki3, ← h]; rfl
theorem CJ.yes {b : List Int} {u v : Int} {j m : Nat} (h : CJ b u v j false) (hb : b.length = m * 2) (hj : j < m) (h1 : ka1 b (j * 2) 0 ≤ u ∧ v ≤ ka1 b (j * 2 + 1) 0) : CJ b u v (j + 1) true := by
  unfold CJ at *; rw [yI hb hj, ki3, ← h]
  show true = (decide _ || false)
  rw [decide_eq_true (show ka1 b (j * 2) 0 ≤ u ∧ v ≤ ka1 b (j * 2 + 1) 0 from h1)]; rfl
theorem CJ.no {b : List Int} {u v : Int} {j m : Nat} (h : CJ b u v j false) (hb : b.length = m * 2) (hj : j < m) (h1 : ¬ (ka1 b (j * 2) 0 ≤ u ∧ v ≤ ka1 b (j * 2 + 1) 0)) : CJ b u v (j + 1) false := by
  unfold CJ at *; rw [yI hb hj, ki3, ← h]
  show false = (decide _ || false)
  rw [decide_eq_false (show ¬ (ka1 b (j * 2) 0 ≤ u ∧ v ≤ ka1 b (j * 2 + 1) 0) from h1)]; rfl
theorem CJ.fin {b : List Int} {u v : Int} {j m : Nat} {f : Bool} (h : CJ b u v j f) (hb : b.length = m * 2) (hj : m ≤ j) : tB b u v = f := by
  unfold CJ at h; rw [kb6 (by rw [q9 hb]; exact hj)] at h; exact h.symm
theorem fG {a b : Int} : 0 ≤ bN a b := by unfold bN; split <;> omega
theorem vH (x : Int) : IntKind.u64.wrap x = x % 18446744073709551616 := by simp [IntKind.wrap, IntKind.bits, IntKind.signed]
end Go.Proofs.YtcfmjpnffembpaaGreat
