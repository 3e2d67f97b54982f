/- Sets of integers. No statement is proved here. -/
import Derived.Test.YtbicifcgghmhaaaGreatZLBy
namespace Go.Proofs.YtbicifcgghmhaaaGreat
open Go.ChangeShapes Go.WideShapes Go.ChangeAt Go.RowKit
open Bool renaming false_ne_true → ki0
open Int renaming le_refl → kd2
open List renaming all_eq_true → ke7, any_append → km4, any_eq_true → kh1, append_assoc → kc9, append_nil → ke2, drop → ka3, drop_of_length_le → kk6, eq_nil_of_length_eq_zero → kd6, flatMap_append → kl0, getD → ka1, getElem?_drop → ke3, getElem?_eq_getElem → ka7, length_append → ka8, length_cons → kb0, length_drop → kb6, length_nil → kb2, length_reverse → kc0, length_take → kb4, mem_cons_of_mem → kb8, mem_cons_self → kb3, mem_of_getElem? → ke1, mem_of_mem_take → kh0, reverse_cons → kf8, take → ka5, take_append_drop → kg3, take_left' → km3, take_of_length_le → kb7
open Nat renaming eq_zero_or_pos → km0, le_refl → kb9, lt_or_ge → ki8, zero_le → kd7
set_option linter.unusedVariables false
set_option linter.unusedSimpArgs false
/-! sets of integers: spans as pairs -/
abbrev Sp := Int × Int
def dA (p : Sp) : Prop := 0 ≤ p.1 ∧ p.1 ≤ p.2 ∧ p.2 ≤ 2147483647
def bN : List Sp → Prop
  | [] => True
  | p :: r => dA p ∧ (∀ q ∈ r, p.2 + 1 < q.1) ∧ bN r
def bP (ps : List Sp) (x : Int) : Prop := ∃ p ∈ ps, p.1 ≤ x ∧ x ≤ p.2
theorem bO (x : Int) : ¬ bP [] x := fun ⟨p, h, _⟩ => by cases h
theorem qO {p : Sp} {r : List Sp} {x : Int} : bP (p :: r) x ↔ (p.1 ≤ x ∧ x ≤ p.2) ∨ bP r x := by
  constructor
  · rintro ⟨q, hq, h⟩
    rcases List.mem_cons.1 hq with rfl | hq
    · exact .inl h
    · exact .inr ⟨q, hq, h⟩
  · rintro (h | ⟨q, hq, h⟩)
    · exact ⟨p, kb3 .., h⟩
    · exact ⟨q, kb8 _ hq, h⟩
theorem cS : ∀ {ps : List Sp}, bN ps → ∀ p ∈ ps, dA p
  | [], _, p, hp => by cases hp
  | q :: r, h, p, hp => by
    rcases List.mem_cons.1 hp with rfl | hp
    · exact h.1
    · exact cS h.2.2 p hp
theorem eU {p : Sp} {r : List Sp} (h : ∀ q ∈ r, p.2 + 1 < q.1) {x : Int} (hx : bP r x) : p.2 + 1 < x := by
  obtain ⟨q, hq, h1, _⟩ := hx
  have := h q hq; omega
theorem k61 : ∀ {a b : List Sp}, bN a → bN b → (∀ x, bP a x ↔ bP b x) → a = b
  | [], [], _, _, _ => rfl
  | [], q :: r, _, hb, h => absurd ((h q.1).2 (qO.2 (.inl ⟨kd2 _, hb.1.2.1⟩))) (bO _)
  | p :: r, [], ha, _, h => absurd ((h p.1).1 (qO.2 (.inl ⟨kd2 _, ha.1.2.1⟩))) (bO _)
  | p :: r, q :: s, ha, hb, h => by
    have m1 : bP (p :: r) p.1 := qO.2 (.inl ⟨kd2 _, ha.1.2.1⟩)
    have m2 : bP (q :: s) q.1 := qO.2 (.inl ⟨kd2 _, hb.1.2.1⟩)
    have v1 := ha.1; have v2 := hb.1
    unfold dA at v1 v2
    have e1 : p.1 = q.1 := by
      have n1 := qO.1 ((h _).1 m1)
      have n2 := qO.1 ((h _).2 m2)
      have g1 : bP s p.1 → q.2 + 1 < p.1 := eU hb.2.1
      have g2 : bP r q.1 → p.2 + 1 < q.1 := eU ha.2.1
      rcases n1 with n1 | n1
      · rcases n2 with n2 | n2
        · omega
        · have := g2 n2; omega
      · have := g1 n1
        rcases n2 with n2 | n2
        · omega
        · have := g2 n2; omega
    have no1 : ¬ bP (p :: r) (p.2 + 1) := fun hh => by
      rcases qO.1 hh with hh | hh
      · omega
      · have := eU ha.2.1 hh; omega
    have no2 : ¬ bP (q :: s) (q.2 + 1) := fun hh => by
      rcases qO.1 hh with hh | hh
      · omega
      · have := eU hb.2.1 hh; omega
    have e2 : p.2 = q.2 := by
      rcases Int.lt_trichotomy p.2 q.2 with hlt | heq | hgt
      · exact absurd ((h (p.2 + 1)).2 (qO.2 (.inl ⟨by omega, by omega⟩))) no1
      · exact heq
      · exact absurd ((h (q.2 + 1)).1 (qO.2 (.inl ⟨by omega, by omega⟩))) no2
    obtain ⟨a, b⟩ := p
    obtain ⟨c, d⟩ := q
    obtain rfl : a = c := e1
    obtain rfl : b = d := e2
    congr 1
    refine k61 ha.2.2 hb.2.2 fun x => ?_
    have hx := h x
    rw [qO, qO] at hx
    constructor
    · intro hr
      have := eU ha.2.1 hr
      rcases hx.1 (.inr hr) with h9 | h9
      · exfalso; simp only at this h9; omega
      · exact h9
    · intro hr
      have := eU hb.2.1 hr
      rcases hx.2 (.inr hr) with h9 | h9
      · exfalso; simp only at this h9; omega
      · exact h9
/-! spans that are joined: the last span first -/
def jD (o : List Sp) (x : Sp) : List Sp := match o with
  | [] => [x]
  | l :: r => if x.1 ≤ l.2 + 1 then (l.1, max l.2 x.2) :: r else x :: l :: r
def okR : List Sp → Prop
  | [] => True
  | p :: r => dA p ∧ (∀ q ∈ r, q.2 + 1 < p.1) ∧ okR r
theorem k1i : ∀ {o : List Sp} {r : List Sp}, okR o → bN r → (∀ p ∈ o, ∀ q ∈ r, p.2 + 1 < q.1) → bN (o.reverse ++ r)
  | [], r, _, h, _ => h
  | p :: o, r, ho, hr, h => by
    rw [kf8, kc9]
    refine k1i ho.2.2 ⟨ho.1, fun q hq => h p (kb3 ..) q hq, hr⟩ fun a ha b hb => ?_
    rcases List.mem_cons.1 hb with rfl | hb
    · exact ho.2.1 a ha
    · exact h a (kb8 _ ha) b hb
theorem u6l (o : List Sp) (x : Sp) : (jD o x).length ≤ o.length + 1 := by
  unfold jD
  cases o with
  | nil => exact kb9 _
  | cons l r => show (if _ then _ else _ : List Sp).length ≤ _; split <;> simp
theorem v0q {o : List Sp} {x : Sp} (h : okR o) (hx : dA x) (hl : ∀ l r, o = l :: r → l.1 ≤ x.1) : okR (jD o x) := by
  cases o with
  | nil => exact ⟨hx, fun q hq => (by cases hq), trivial⟩
  | cons l r =>
    have h1 := hl l r rfl
    have hv := h.1
    unfold dA at hv hx
    show okR (if _ then _ else _)
    split
    · refine ⟨⟨hv.1, ?_, ?_⟩, h.2.1, h.2.2⟩
      · show l.1 ≤ max l.2 x.2; omega
      · show max l.2 x.2 ≤ _; omega
    · refine ⟨hx, fun q hq => ?_, h⟩
      rcases List.mem_cons.1 hq with rfl | hq
      · omega
      · have := h.2.1 q hq; omega
theorem v0r {o : List Sp} {x : Sp} (h : okR o) (hx : dA x) (hl : ∀ l r, o = l :: r → l.1 ≤ x.1) (z : Int) : bP (jD o x) z ↔ bP o z ∨ (x.1 ≤ z ∧ z ≤ x.2) := by
  cases o with
  | nil => show bP [x] z ↔ _; rw [qO]; exact or_comm
  | cons l r =>
    have h1 := hl l r rfl
    have hv := h.1
    unfold dA at hv hx
    show bP (if _ then _ else _) z ↔ _
    split
    · rw [qO, qO]
      show (l.1 ≤ z ∧ z ≤ max l.2 x.2) ∨ _ ↔ _
      constructor
      · rintro (h9 | h9)
        · by_cases h8 : z ≤ l.2
          · exact .inl (.inl ⟨h9.1, h8⟩)
          · exact .inr ⟨by omega, by omega⟩
        · exact .inl (.inr h9)
      · rintro ((h9 | h9) | h9)
        · exact .inl ⟨h9.1, by omega⟩
        · exact .inr h9
        · exact .inl ⟨by omega, by omega⟩
    · rw [qO]; exact or_comm
theorem u0z {o : List Sp} {x : Sp} (hl : ∀ l r, o = l :: r → l.1 ≤ x.1) : ∀ l r, jD o x = l :: r → l.1 ≤ x.1 := by
  intro l r e
  cases o with
  | nil => have e : [x] = l :: r := e; cases e; exact kd2 _
  | cons a s =>
    have h1 := hl a s rfl
    have e : (if x.1 ≤ a.2 + 1 then (a.1, max a.2 x.2) :: s else x :: a :: s) = l :: r := e
    split at e
    · cases e; exact h1
    · cases e; exact kd2 _
def jnR (s : List Sp) : List Sp := s.foldl jD []
def srP (s : List Sp) : Prop := s.Pairwise fun a b => a.1 ≤ b.1
theorem k6s : ∀ (s o : List Sp), okR o → (∀ p ∈ s, dA p) → srP s → (∀ l r, o = l :: r → ∀ p ∈ s, l.1 ≤ p.1) → okR (s.foldl jD o) ∧ (∀ z, bP (s.foldl jD o) z ↔ bP o z ∨ bP s z) ∧ (s.foldl jD o).length ≤ o.length + s.length
  | [], o, h, _, _, _ => ⟨h, fun z => ⟨.inl, fun h => h.elim id fun h => absurd h (bO _)⟩, kb9 _⟩
  | x :: s, o, h, hv, hs, hl => by
    have hx := hv x (kb3 ..)
    have hl1 : ∀ l r, o = l :: r → l.1 ≤ x.1 := fun l r e => hl l r e x (kb3 ..)
    obtain ⟨h1, h2⟩ := List.pairwise_cons.1 hs
    obtain ⟨i1, i2, i3⟩ := k6s s (jD o x) (v0q h hx hl1) (fun p hp => hv p (kb8 _ hp)) h2 (fun l r e p hp => by have := u0z hl1 l r e; have := h1 p hp; omega)
    refine ⟨i1, fun z => ?_, ?_⟩
    · show bP (s.foldl jD (jD o x)) z ↔ _
      rw [i2 z, v0r h hx hl1 z, qO, or_assoc]
    · show (s.foldl jD (jD o x)).length ≤ _
      have := u6l o x
      simp only [kb0]; omega
def jnP (s : List Sp) : List Sp := (jnR s).reverse
theorem k6r {s : List Sp} (hv : ∀ p ∈ s, dA p) (hs : srP s) : bN (jnP s) ∧ (∀ z, bP (jnP s) z ↔ bP s z) ∧ (jnP s).length ≤ s.length := by
  obtain ⟨h1, h2, h3⟩ := k6s s [] trivial hv hs (fun l r e => by cases e)
  refine ⟨?_, fun z => ?_, ?_⟩
  · have := k1i (r := []) h1 trivial (fun _ _ q hq => by cases hq)
    rw [ke2] at this; exact this
  · have e : bP (jnP s) z ↔ bP (jnR s) z := by
      unfold bP jnP
      simp only [List.mem_reverse]
    rw [e]
    have := h2 z
    rw [show s.foldl jD [] = jnR s from rfl] at this
    rw [this]
    exact ⟨fun h => h.elim (fun h => absurd h (bO _)) id, .inr⟩
  · unfold jnP jnR; rw [kc0]
    have : (s.foldl jD []).length ≤ ([] : List Sp).length + s.length := h3
    rw [kb2, Nat.zero_add] at this; exact this
theorem wH {a b : List Sp} (h : a.Perm b) (z : Int) : bP a z ↔ bP b z := by
  unfold bP
  constructor
  · rintro ⟨p, hp, h9⟩; exact ⟨p, h.mem_iff.1 hp, h9⟩
  · rintro ⟨p, hp, h9⟩; exact ⟨p, h.mem_iff.2 hp, h9⟩
theorem u1a {a b : List Sp} (h : a.Perm b) (hv : ∀ p ∈ a, dA p) (ha : srP a) (hb : srP b) : jnP a = jnP b := by
  have h1 := k6r hv ha
  have h2 := k6r (s := b) (fun p hp => hv p (h.mem_iff.2 hp)) hb
  exact k61 h1.1 h2.1 fun z => (h1.2.1 z).trans ((wH h z).trans (h2.2.1 z).symm)
/-! intersections -/
def lJ (p q : Sp) : List Sp := if max p.1 q.1 ≤ min p.2 q.2 then [(max p.1 q.1, min p.2 q.2)] else []
def tJ (p : Sp) (b : List Sp) : List Sp := b.flatMap (lJ p)
def aL (a b : List Sp) : List Sp := a.flatMap fun p => tJ p b
theorem wQ {p q : Sp} (h : p.2 < q.1 ∨ q.2 < p.1) : lJ p q = [] := by unfold lJ; rw [if_neg (by omega)]
theorem wO {p : Sp} : ∀ {b : List Sp}, (∀ q ∈ b, p.2 < q.1 ∨ q.2 < p.1) → tJ p b = []
  | [], _ => rfl
  | q :: b, h => by
    show lJ p q ++ tJ p b = []
    rw [wQ (h q (kb3 ..)), wO fun r hr => h r (kb8 _ hr)]; rfl
theorem jE : ∀ a : List Sp, aL a [] = []
  | [] => rfl
  | p :: a => by show tJ p [] ++ aL a [] = []; rw [jE a]; rfl
theorem k1v {x y : Sp} {a b : List Sp} (hb : bN (y :: b)) (h : x.2 < y.2) : aL (x :: a) (y :: b) = lJ x y ++ aL a (y :: b) := by
  show (lJ x y ++ tJ x b) ++ _ = _
  rw [wO fun q hq => .inl (by have := hb.2.1 q hq; omega), ke2]; rfl
theorem wP {y : Sp} {b : List Sp} : ∀ {a : List Sp}, (∀ p ∈ a, y.2 < p.1) → aL a (y :: b) = aL a b
  | [], _ => rfl
  | p :: a, h => by
    show (lJ p y ++ tJ p b) ++ aL a (y :: b) = tJ p b ++ aL a b
    rw [wQ (.inr (h p (kb3 ..))), wP fun q hq => h q (kb8 _ hq)]; rfl
theorem wM {x y : Sp} {a b : List Sp} (ha : bN (x :: a)) (h : ¬ x.2 < y.2) : aL (x :: a) (y :: b) = lJ x y ++ aL (x :: a) b := by
  show (lJ x y ++ tJ x b) ++ aL a (y :: b) = lJ x y ++ (tJ x b ++ aL a b)
  rw [wP fun p hp => by have := ha.2.1 p hp; omega, kc9]
theorem u1b (p q : Sp) : (lJ p q).length ≤ 1 := by unfold lJ; split <;> simp
theorem k02 : ∀ (n : Nat) (a b : List Sp), a.length + b.length ≤ n → bN a → bN b → (aL a b).length ≤ a.length + b.length
  | _, [], b, _, _, _ => kd7 _
  | _, p :: a, [], _, _, _ => by rw [jE]; exact kd7 _
  | 0, p :: a, q :: b, h, _, _ => by simp at h
  | n + 1, x :: a, y :: b, h, ha, hb => by
    have h1 := u1b x y
    by_cases hxy : x.2 < y.2
    · rw [k1v hb hxy, ka8]
      have := k02 n a (y :: b) (by simp at h ⊢; omega) ha.2.2 hb
      simp only [kb0] at this ⊢; omega
    · rw [wM ha hxy, ka8]
      have := k02 n (x :: a) b (by simp at h ⊢; omega) ha hb.2.2
      simp only [kb0] at this ⊢; omega
theorem fG {p q r : Sp} : r ∈ lJ p q ↔ max p.1 q.1 ≤ min p.2 q.2 ∧ r = (max p.1 q.1, min p.2 q.2) := by
  unfold lJ
  split
  · rename_i h; rw [List.mem_singleton]; exact ⟨fun e => ⟨h, e⟩, fun e => e.2⟩
  · rename_i h; exact ⟨fun e => (by cases e), fun e => absurd e.1 h⟩
theorem rO {a b : List Sp} {r : Sp} : r ∈ aL a b ↔ ∃ p ∈ a, ∃ q ∈ b, r ∈ lJ p q := by
  unfold aL tJ
  simp only [List.mem_flatMap]
theorem mT (a b : List Sp) (x : Int) : bP (aL a b) x ↔ bP a x ∧ bP b x := by
  constructor
  · rintro ⟨r, hr, h⟩
    obtain ⟨p, hp, q, hq, hr⟩ := rO.1 hr
    obtain ⟨h1, rfl⟩ := fG.1 hr
    simp only at h
    exact ⟨⟨p, hp, by omega, by omega⟩, ⟨q, hq, by omega, by omega⟩⟩
  · rintro ⟨⟨p, hp, h1⟩, ⟨q, hq, h2⟩⟩
    exact ⟨_, rO.2 ⟨p, hp, q, hq, fG.2 ⟨by omega, rfl⟩⟩, by simp only; omega, by simp only; omega⟩
theorem rF : ∀ {a b : List Sp}, bN a → bN b → (∀ p ∈ a, ∀ q ∈ b, p.2 + 1 < q.1) → bN (a ++ b)
  | [], b, _, hb, _ => hb
  | p :: a, b, ha, hb, h => ⟨ha.1, fun q hq => (List.mem_append.1 hq).elim (ha.2.1 q) (h p (kb3 ..) q), rF ha.2.2 hb fun r hr q hq => h r (kb8 _ hr) q hq⟩
theorem u6u {p q : Sp} (hp : dA p) (hq : dA q) : bN (lJ p q) := by
  unfold lJ
  unfold dA at hp hq
  split
  · exact ⟨⟨by show 0 ≤ max p.1 q.1; omega, by assumption, by show min p.2 q.2 ≤ _; omega⟩, fun _ h => (by cases h), trivial⟩
  · trivial
theorem k6w {p : Sp} (hp : dA p) : ∀ {b : List Sp}, bN b → bN (tJ p b)
  | [], _ => trivial
  | q :: b, h => by
    refine rF (u6u hp h.1) (k6w hp h.2.2) fun r hr s hs => ?_
    obtain ⟨_, rfl⟩ := fG.1 hr
    obtain ⟨t, ht, hs⟩ := List.mem_flatMap.1 hs
    obtain ⟨_, rfl⟩ := fG.1 hs
    have := h.2.1 t ht
    simp only; omega
theorem k1u : ∀ {a b : List Sp}, bN a → bN b → bN (aL a b)
  | [], _, _, _ => trivial
  | p :: a, b, ha, hb => by
    refine rF (k6w ha.1 hb) (k1u ha.2.2 hb) fun r hr s hs => ?_
    obtain ⟨q, hq, hr⟩ := List.mem_flatMap.1 hr
    obtain ⟨_, rfl⟩ := fG.1 hr
    obtain ⟨t, ht, u, hu, hs⟩ := rO.1 hs
    obtain ⟨_, rfl⟩ := fG.1 hs
    have := ha.2.1 t ht
    simp only; omega
/-! inside -/
def ctE (p q : Sp) : Bool := decide (q.1 ≤ p.1 ∧ p.2 ≤ q.2)
def inP (a b : List Sp) : Bool := a.all fun p => b.any (ctE p)
theorem k5n : ∀ {b : List Sp} {p : Sp}, bN b → p.1 ≤ p.2 → (∀ x, p.1 ≤ x → x ≤ p.2 → bP b x) → ∃ q ∈ b, q.1 ≤ p.1 ∧ p.2 ≤ q.2
  | [], p, _, hp, h => absurd (h p.1 (kd2 _) hp) (bO _)
  | q :: b, p, hb, hp, h => by
    have hq := hb.1
    unfold dA at hq
    rcases qO.1 (h p.1 (kd2 _) hp) with h1 | h1
    · refine ⟨q, kb3 .., h1.1, ?_⟩
      apply Int.not_lt.1
      intro hlt
      rcases qO.1 (h (q.2 + 1) (by omega) (by omega)) with h2 | h2
      · omega
      · have := eU hb.2.1 h2; omega
    · have h3 := eU hb.2.1 h1
      obtain ⟨r, hr, h4⟩ := k5n (p := p) hb.2.2 hp fun x hx hx2 => by
        rcases qO.1 (h x hx hx2) with h2 | h2
        · omega
        · exact h2
      exact ⟨r, kb8 _ hr, h4⟩
theorem u6y {a b : List Sp} (ha : bN a) (hb : bN b) (h : ∀ x, bP a x → bP b x) : inP a b = true := by
  unfold inP
  rw [ke7]
  intro p hp
  have hv := cS ha p hp
  unfold dA at hv
  obtain ⟨q, hq, h1⟩ := k5n hb hv.2.1 fun x h1 h2 => h x ⟨p, hp, h1, h2⟩
  rw [kh1]
  exact ⟨q, hq, decide_eq_true h1⟩
/-! the nearest -/
def gJ (n : Int) (p : Sp) : Int := max p.1 (min p.2 n)
def aG (a b : Int) : Int := if b < a then a - b else b - a
def nrP (n : Int) : List Sp → Option Int → Option Int
  | [], o => o
  | p :: r, o => nrP n r (match o with
    | none => some (gJ n p)
    | some v => if aG (gJ n p) n < aG v n then some (gJ n p) else some v)
theorem sL {p : Sp} (hp : p.1 ≤ p.2) (n x : Int) (hx : p.1 ≤ x ∧ x ≤ p.2) : aG (gJ n p) n < aG x n ∨ gJ n p = x ∨ (aG (gJ n p) n = aG x n ∧ gJ n p ≤ x) := by
  unfold aG gJ
  split <;> split <;> omega
theorem rH : ∀ (n : Int) (s : List Sp) (v : Int), ∃ w, nrP n s (some v) = some w
  | n, [], v => ⟨v, rfl⟩
  | n, p :: r, v => by
    show ∃ w, nrP n r (if aG (gJ n p) n < aG v n then some (gJ n p) else some v) = some w
    split
    · exact rH n r _
    · exact rH n r _
theorem rI : ∀ (n : Int) (s : List Sp) (v w : Int), bN s → (∀ q ∈ s, v < q.1) → nrP n s (some v) = some w → (w = v ∨ bP s w) ∧ (aG w n < aG v n ∨ (aG w n = aG v n ∧ w ≤ v)) ∧ ∀ x, bP s x → aG w n < aG x n ∨ (aG w n = aG x n ∧ w ≤ x)
  | n, [], v, w, _, _, h => by
    have h : some v = some w := h
    cases h
    exact ⟨.inl rfl, .inr ⟨rfl, kd2 _⟩, fun x hx => absurd hx (bO _)⟩
  | n, p :: r, v, w, hs, hv, h => by
    have hp := hs.1
    unfold dA at hp
    have h : nrP n r (if aG (gJ n p) n < aG v n then some (gJ n p) else some v) = some w := h
    have hc : p.1 ≤ gJ n p ∧ gJ n p ≤ p.2 := by unfold gJ; omega
    have hvp := hv p (kb3 ..)
    by_cases hd : aG (gJ n p) n < aG v n
    · rw [if_pos hd] at h
      obtain ⟨h1, h2, h3⟩ := rI n r (gJ n p) w hs.2.2 (fun q hq => by have := hs.2.1 q hq; omega) h
      refine ⟨.inr (qO.2 (h1.imp (fun e => by rw [e]; exact hc) id)), by omega, fun x hx => ?_⟩
      rcases qO.1 hx with hx | hx
      · have := sL hp.2.1 n x hx
        rcases this with h9 | h9 | h9
        · omega
        · rw [← h9]; omega
        · omega
      · exact h3 x hx
    · rw [if_neg hd] at h
      obtain ⟨h1, h2, h3⟩ := rI n r v w hs.2.2 (fun q hq => hv q (kb8 _ hq)) h
      refine ⟨h1.imp id (fun e => qO.2 (.inr e)), h2, fun x hx => ?_⟩
      rcases qO.1 hx with hx | hx
      · have := sL hp.2.1 n x hx
        have hw : w ≤ v ∨ aG w n < aG v n := by omega
        rcases this with h9 | h9 | h9
        · omega
        · rw [← h9]; omega
        · omega
      · exact h3 x hx
/-! spans told as one list of numbers -/
def qN : List Int → List Sp
  | a :: b :: r => (a, b) :: qN r
  | _ => []
def fl : List Sp → List Int
  | [] => []
  | p :: r => p.1 :: p.2 :: fl r
theorem gC : ∀ s : List Sp, qN (fl s) = s
  | [] => rfl
  | p :: r => by show (p.1, p.2) :: qN (fl r) = p :: r; rw [gC r]
theorem dV : ∀ s : List Sp, (fl s).length = s.length * 2
  | [] => rfl
  | p :: r => by show (fl r).length + 1 + 1 = (r.length + 1) * 2; rw [dV r]; omega
theorem gH : ∀ a b : List Sp, fl (a ++ b) = fl a ++ fl b
  | [], b => rfl
  | p :: a, b => by show p.1 :: p.2 :: fl (a ++ b) = p.1 :: p.2 :: (fl a ++ fl b); rw [gH a b]
theorem k7c : ∀ (n : Nat) (l : List Int), l.length = n * 2 → fl (qN l) = l
  | 0, [], _ => rfl
  | 0, _ :: _, h => by simp at h
  | n + 1, a :: b :: r, h => by
    show a :: b :: fl (qN r) = a :: b :: r
    rw [k7c n r (by simp at h; omega)]
  | n + 1, [_], h => by simp at h; omega
  | n + 1, [], h => by simp at h
theorem qX {n : Nat} {l : List Int} (h : l.length = n * 2) : (qN l).length = n := by
  have h1 := dV (qN l)
  rw [k7c n l h] at h1; omega
theorem gU {n : Nat} {a b : List Int} (h : a.length = n * 2) : qN (a ++ b) = qN a ++ qN b := by
  induction n generalizing a with
  | zero =>
    have : a = [] := kd6 (by omega)
    subst this; rfl
  | succ n ih =>
    match a, h with
    | x :: y :: r, h =>
      show (x, y) :: qN (r ++ b) = (x, y) :: (qN r ++ qN b)
      rw [ih (by simp at h; omega)]
    | [_], h => simp at h; omega
    | [], h => simp at h
theorem vQ : ∀ (n : Nat) (l : List Int) (j : Nat), l.length = n * 2 → j < n → (qN l)[j]? = some (ka1 l (j * 2) 0, ka1 l (j * 2 + 1) 0)
  | n + 1, a :: b :: r, 0, _, _ => rfl
  | n + 1, a :: b :: r, j + 1, h, hj => by
    show (qN r)[j]? = _
    rw [vQ n r j (by simp at h; omega) (by omega)]
    rw [show (j + 1) * 2 = j * 2 + 1 + 1 by omega]; rfl
  | n + 1, [_], _, h, _ => by simp at h; omega
  | n + 1, [], _, h, _ => by simp at h
theorem u6 {n : Nat} {l : List Int} (h : l.length = n * 2) {p : Sp} : p ∈ qN l ↔ ∃ j, j < n ∧ p = (ka1 l (j * 2) 0, ka1 l (j * 2 + 1) 0) := by
  constructor
  · intro hp
    obtain ⟨j, hj, e⟩ := List.mem_iff_getElem.1 hp
    rw [qX h] at hj
    have := vQ n l j h hj
    rw [ka7 (by rw [qX h]; exact hj), e] at this
    exact ⟨j, hj, Option.some.inj this⟩
  · rintro ⟨j, hj, rfl⟩
    exact ke1 (vQ n l j h hj)
theorem k5g {n : Nat} {l : List Int} (h : l.length = n * 2) {k : Nat} (hk : k ≤ n) : qN (ka5 (k * 2) l) = ka5 k (qN l) := by
  have h1 := gU (n := k) (a := ka5 (k * 2) l) (b := ka3 (k * 2) l) (by rw [kb4]; omega)
  rw [kg3] at h1
  have h2 := qX (n := k) (l := ka5 (k * 2) l) (by rw [kb4]; omega)
  conv => rhs; rw [h1]
  exact (km3 h2).symm
theorem k5h {n : Nat} {l : List Int} (h : l.length = n * 2) {k : Nat} (hk : k ≤ n) : qN (ka3 (k * 2) l) = ka3 k (qN l) := by
  have h1 := gU (n := k) (a := ka5 (k * 2) l) (b := ka3 (k * 2) l) (by rw [kb4]; omega)
  rw [kg3] at h1
  have h2 := qX (n := k) (l := ka5 (k * 2) l) (by rw [kb4]; omega)
  conv => rhs; rw [h1]
  exact (List.drop_left' h2).symm
theorem tX {n : Nat} {l : List Int} (h : l.length = n * 2) (a b : Int) : qN (l ++ [a, b]) = qN l ++ [(a, b)] := gU h
theorem bW {n : Nat} {l : List Int} (h : l.length = n * 2) {k : Nat} (hk : k < n) : ka3 k (qN l) = (ka1 l (k * 2) 0, ka1 l (k * 2 + 1) 0) :: ka3 (k + 1) (qN l) := by
  have hl := qX h
  rw [List.drop_eq_getElem_cons (by omega)]
  have := vQ n l k h hk
  rw [ka7 (by omega)] at this
  rw [Option.some.inj this]
theorem yN {n : Nat} {l : List Int} (h : l.length = n * 2) {k : Nat} (hk : k < n) : ka5 (k + 1) (qN l) = ka5 k (qN l) ++ [(ka1 l (k * 2) 0, ka1 l (k * 2 + 1) 0)] := by
  rw [List.take_add_one, vQ n l k h hk]; rfl
/-! valid sets -/
def vaE (l : List Int) (j : Nat) : Bool := decide (0 ≤ ka1 l (j * 2) 0 ∧ ka1 l (j * 2) 0 ≤ ka1 l (j * 2 + 1) 0 ∧ ka1 l (j * 2 + 1) 0 ≤ 2147483647 ∧ (j = 0 ∨ ka1 l ((j - 1) * 2 + 1) 0 + 1 < ka1 l (j * 2) 0))
def eB (l : List Int) (n : Nat) : Bool := decide (n ≤ 64) && (List.range n).all (vaE l)
theorem k4h {l : List Int} {n : Nat} (h1 : n ≤ 64) (h : ∀ j, j < n → vaE l j = true) : eB l n = true :=
  Bool.and_eq_true_iff.2 ⟨decide_eq_true h1, List.all_eq_true.2 fun j hj => h j (List.mem_range.1 hj)⟩
theorem u91 {l : List Int} {n : Nat} (h1 : ¬ n ≤ 64) : eB l n = false := by unfold eB; rw [decide_eq_false h1]; rfl
theorem u35 {l : List Int} {n k : Nat} (hk : k < n) (h : vaE l k = false) : eB l n = false := by
  cases hb : eB l n with
  | false => rfl
  | true =>
    have := List.all_eq_true.1 (Bool.and_eq_true_iff.1 hb).2 k (List.mem_range.2 hk)
    rw [h] at this; cases this
theorem k60 : ∀ (s : List Sp), (∀ (j : Nat) (p : Sp), s[j]? = some p → dA p) → (∀ (j : Nat) (p q : Sp), s[j]? = some p → s[j + 1]? = some q → p.2 + 1 < q.1) → bN s
  | [], _, _ => trivial
  | p :: r, h1, h2 => by
    have ih := k60 r (fun j q hq => h1 (j + 1) q hq) (fun j a b ha hb => h2 (j + 1) a b ha hb)
    refine ⟨h1 0 p rfl, ?_, ih⟩
    have hp := h1 0 p rfl
    match r, ih, h2 with
    | [], _, _ => intro q hq; cases hq
    | a :: r, ih, h2 =>
      have h3 := h2 0 p a rfl rfl
      have ha := ih.1
      unfold dA at ha
      intro q hq
      rcases List.mem_cons.1 hq with rfl | hq
      · exact h3
      · have := ih.2.1 q hq; omega
theorem gV : ∀ (s : List Sp), bN s → ∀ (j : Nat) (p q : Sp), s[j]? = some p → s[j + 1]? = some q → p.2 + 1 < q.1
  | [], _, j, p, q, h, _ => by simp at h
  | a :: r, h, 0, p, q, hp, hq => by
    have hp : some a = some p := hp
    cases hp
    exact h.2.1 q (ke1 (show r[0]? = some q from hq))
  | a :: r, h, j + 1, p, q, hp, hq => gV r h.2.2 j p q hp hq
theorem v9 {l : List Int} {n : Nat} (hl : l.length = n * 2) : eB l n = true ↔ n ≤ 64 ∧ bN (qN l) := by
  constructor
  · intro h
    have h1 := Bool.and_eq_true_iff.1 h
    have ha : ∀ j, j < n → vaE l j = true := fun j hj => List.all_eq_true.1 h1.2 j (List.mem_range.2 hj)
    refine ⟨of_decide_eq_true h1.1, k60 _ (fun j p hp => ?_) (fun j p q hp hq => ?_)⟩
    · have hj : j < n := by have := (List.getElem?_eq_some_iff.1 hp).1; rw [qX hl] at this; exact this
      rw [vQ n l j hl hj] at hp
      cases hp
      have := of_decide_eq_true (ha j hj)
      exact ⟨this.1, this.2.1, this.2.2.1⟩
    · have hj : j + 1 < n := by have := (List.getElem?_eq_some_iff.1 hq).1; rw [qX hl] at this; exact this
      rw [vQ n l j hl (by omega)] at hp
      rw [vQ n l (j + 1) hl hj] at hq
      cases hp; cases hq
      have := (of_decide_eq_true (ha (j + 1) hj)).2.2.2
      rw [show j + 1 - 1 = j by omega] at this
      rcases this with h9 | h9
      · omega
      · exact h9
  · rintro ⟨h1, h2⟩
    refine k4h h1 fun j hj => decide_eq_true ?_
    have hv := cS h2 _ (ke1 (vQ n l j hl hj))
    refine ⟨hv.1, hv.2.1, hv.2.2, ?_⟩
    rcases km0 j with h9 | h9
    · exact .inl h9
    · right
      have e := vQ n l (j - 1) hl (by omega)
      have e2 := vQ n l j hl hj
      rw [show j = j - 1 + 1 by omega] at e2
      have := gV _ h2 (j - 1) _ _ e e2
      rw [show j - 1 + 1 = j by omega] at this
      exact this
def kB (l : List Int) (n : Nat) : List Int := if eB l n = true then l else []
def kW (l : List Int) (n : Nat) : Nat := if eB l n = true then n else 0
theorem nI {l : List Int} {n : Nat} (h : eB l n = true) : kB l n = l ∧ kW l n = n := ⟨if_pos h, if_pos h⟩
theorem u97 {l : List Int} {n : Nat} (h : eB l n = false) : kB l n = [] ∧ kW l n = 0 := by unfold kB kW; rw [h]; exact ⟨rfl, rfl⟩
theorem qQ {l : List Int} {n : Nat} (hl : l.length = n * 2) : (kB l n).length = kW l n * 2 := by
  unfold kB kW; split
  · exact hl
  · rfl
theorem aY {l : List Int} {n : Nat} (hl : l.length = n * 2) : bN (qN (kB l n)) := by
  cases h : eB l n with
  | true => rw [(nI h).1]; exact ((v9 hl).1 h).2
  | false => rw [(u97 h).1]; trivial
theorem jQ {l : List Int} {n : Nat} : kW l n ≤ 64 ∧ kW l n ≤ n := by
  unfold kW; split
  · rename_i h; exact ⟨of_decide_eq_true (Bool.and_eq_true_iff.1 h).1, kb9 _⟩
  · exact ⟨kd7 _, kd7 _⟩
/-! spans in order, and joined -/
theorem p6 {n : Nat} {l : List Int} (h : l.length = n * 2) {j : Nat} (hj : j < n) : (qN l)[j]'(by rw [qX h]; exact hj) = (ka1 l (j * 2) 0, ka1 l (j * 2 + 1) 0) := by
  have := vQ n l j h hj
  rw [ka7 (by rw [qX h]; exact hj)] at this
  exact Option.some.inj this
def RG (l : List Int) (n : Nat) : Prop := ∀ j, j < n → 0 ≤ ka1 l (j * 2) 0 ∧ ka1 l (j * 2) 0 ≤ ka1 l (j * 2 + 1) 0 ∧ ka1 l (j * 2 + 1) 0 ≤ 2147483647
theorem RG.v {l : List Int} {n : Nat} (hl : l.length = n * 2) (h : RG l n) : ∀ p ∈ qN l, dA p := fun p hp => by
  obtain ⟨j, hj, rfl⟩ := (u6 hl).1 hp
  exact h j hj
theorem u06 {l : List Int} {n : Nat} (hl : l.length = n * 2) (h : ∀ p ∈ qN l, dA p) : RG l n := fun j hj => h _ ((u6 hl).2 ⟨j, hj, rfl⟩)
def stP (s : List Sp) : List Sp := s.mergeSort fun a b => decide (a.1 ≤ b.1)
theorem eP (s : List Sp) : (stP s).Perm s := List.mergeSort_perm _ _
theorem k4p (s : List Sp) : srP (stP s) := by
  have h := List.pairwise_mergeSort (le := fun (x y : Sp) => decide (x.1 ≤ y.1)) (fun a b c h1 h2 => decide_eq_true (by have := of_decide_eq_true h1; have := of_decide_eq_true h2; omega)) (fun a b => by
    rw [Bool.or_eq_true]
    rcases Int.le_total a.1 b.1 with h | h
    · exact .inl (decide_eq_true h)
    · exact .inr (decide_eq_true h)) s
  exact h.imp fun h => of_decide_eq_true h
def mkP (s : List Sp) : List Sp := jnP (stP s)
theorem k6a {s : List Sp} (hv : ∀ p ∈ s, dA p) : bN (mkP s) ∧ (∀ z, bP (mkP s) z ↔ bP s z) ∧ (mkP s).length ≤ s.length := by
  obtain ⟨h1, h2, h3⟩ := k6r (s := stP s) (fun p hp => hv p ((eP s).mem_iff.1 hp)) (k4p s)
  exact ⟨h1, fun z => (h2 z).trans (wH (eP s) z), by rw [(eP s).length_eq] at h3; exact h3⟩
theorem k39 {s t : List Sp} (hv : ∀ p ∈ s, dA p) (h : t.Perm s) (ht : srP t) : jnP t = mkP s :=
  (u1a ((eP s).trans h.symm) (fun p hp => hv p ((eP s).mem_iff.1 hp)) (k4p s) ht).symm
structure SI (l : List Int) (i : Nat) (o : List Int) : Prop where
  len : o.length = i * 2
  perm : (qN o).Perm (ka5 i (qN l))
  sr : srP (qN o)
theorem SI.zero (l : List Int) : SI l 0 [] := ⟨rfl, List.Perm.refl _, List.Pairwise.nil⟩
theorem SI.rg {l o : List Int} {n i : Nat} (h : SI l i o) (hl : l.length = n * 2) (hi : i ≤ n) (hr : RG l n) : RG o i :=
  u06 h.len fun p hp => hr.v hl p (kh0 (h.perm.mem_iff.1 hp))
theorem rA {s : List Sp} (h : srP s) {i j : Nat} {p q : Sp} (hij : i ≤ j) (hp : s[i]? = some p) (hq : s[j]? = some q) : p.1 ≤ q.1 := by
  obtain ⟨h1, rfl⟩ := List.getElem?_eq_some_iff.1 hp
  obtain ⟨h2, rfl⟩ := List.getElem?_eq_some_iff.1 hq
  rcases ki8 i j with h9 | h9
  · exact List.pairwise_iff_getElem.1 h i j h1 h2 h9
  · have e : i = j := by omega
    subst e; exact kd2 _
theorem SI.step {l o q : List Int} {n i k : Nat} {a b : Int} (h : SI l i o) (hl : l.length = n * 2) (hi : i < n) (ha : a = ka1 l (i * 2) 0) (hb : b = ka1 l (i * 2 + 1) 0) (hk : k ≤ i) (h1 : ∀ j, k ≤ j → j < i → a < ka1 o (j * 2) 0) (h2 : k = 0 ∨ ka1 o ((k - 1) * 2) 0 ≤ a) (hq : q = ka5 (k * 2) o ++ [a, b] ++ ka3 (k * 2) o) : SI l (i + 1) q := by
  have e : qN q = ka5 k (qN o) ++ [(a, b)] ++ ka3 k (qN o) := by
    rw [hq, gU (n := k + 1) (by rw [ka8, kb4, h.len]; simp only [kb0, kb2]; omega), tX (n := k) (by rw [kb4, h.len]; omega), k5g h.len hk, k5h h.len hk]
  refine ⟨?_, ?_, ?_⟩
  · rw [hq]; simp only [ka8, kb4, kb6, kb0, kb2, h.len]; omega
  · rw [e, yN hl hi, ← ha, ← hb, kc9]
    refine (List.Perm.append_left _ List.perm_append_comm).trans ?_
    rw [← kc9, kg3]
    exact h.perm.append_right _
  · have hg : ∀ j, j < i → (qN o)[j]? = some (ka1 o (j * 2) 0, ka1 o (j * 2 + 1) 0) := fun j hj => vQ i o j h.len hj
    rw [e, srP, kc9, List.pairwise_append]
    refine ⟨h.sr.sublist (List.take_sublist _ _), List.Pairwise.cons (fun x hx => ?_) (h.sr.sublist (List.drop_sublist _ _)), fun x hx y hy => ?_⟩
    · obtain ⟨j, hj, e2⟩ := List.mem_iff_getElem?.1 hx |>.elim fun j hj => (⟨j, (List.getElem?_eq_some_iff.1 hj).1, hj⟩ : ∃ j, j < (ka3 k (qN o)).length ∧ (ka3 k (qN o))[j]? = some x)
      rw [kb6, qX h.len] at hj
      rw [ke3, hg _ (by omega)] at e2
      cases e2
      have := h1 (k + j) (by omega) (by omega)
      show a ≤ _; omega
    · obtain ⟨j, hj⟩ := List.mem_iff_getElem?.1 hx
      have hj2 := (List.getElem?_eq_some_iff.1 hj).1
      rw [kb4, qX h.len] at hj2
      rw [List.getElem?_take, if_pos (by omega)] at hj
      have hxa : x.1 ≤ a := by
        rcases h2 with h2 | h2
        · omega
        · have := rA h.sr (show j ≤ k - 1 by omega) hj (hg (k - 1) (by omega))
          exact Int.le_trans this h2
      rcases List.mem_cons.1 (show y ∈ (a, b) :: ka3 k (qN o) from hy) with rfl | hy
      · exact hxa
      · obtain ⟨m, hm⟩ := List.mem_iff_getElem?.1 hy
        have hm2 := (List.getElem?_eq_some_iff.1 hm).1
        rw [kb6, qX h.len] at hm2
        rw [ke3, hg _ (by omega)] at hm
        cases hm
        have := h1 (k + m) (by omega) (by omega)
        show x.1 ≤ _; omega
theorem SI.all {l o : List Int} {n i : Nat} (h : SI l i o) (hl : l.length = n * 2) (hi : n ≤ i) : (qN o).Perm (qN l) := by
  have := h.perm
  rw [kb7 (by rw [qX hl]; exact hi)] at this
  exact this
def MG (o : List Int) (i : Nat) (k : Nat) (out : List Int) : Prop := out = fl ((ka5 i (qN o)).foldl jD []).reverse ∧ ((ka5 i (qN o)).foldl jD []).length = k
theorem MG.zero (o : List Int) : MG o 0 0 [] := ⟨rfl, rfl⟩
theorem MG.len {o out : List Int} {i k : Nat} (h : MG o i k out) : out.length = k * 2 := by rw [h.1, dV, kc0, h.2]
theorem u78 (r : List Sp) (l : Sp) (v : Int) : List.set (fl (r ++ [l])) (r.length * 2 + 1) v = fl (r ++ [(l.1, v)]) := by
  rw [gH, gH, ← dV r, List.set_append_right _ _ (by omega), show (fl r).length + 1 - (fl r).length = 1 by omega]; rfl
theorem u1m (r : List Sp) (l : Sp) : ka1 (fl (r ++ [l])) (r.length * 2 + 1) 0 = l.2 := by
  rw [gH, List.getD_eq_getElem?_getD, ← dV r, List.getElem?_append_right (by omega), show (fl r).length + 1 - (fl r).length = 1 by omega]; rfl
theorem MG.last {o out : List Int} {i k : Nat} (h : MG o i k out) (hk : 1 ≤ k) : ∃ l r, (ka5 i (qN o)).foldl jD [] = l :: r ∧ out = fl (r.reverse ++ [l]) ∧ r.length = k - 1 ∧ ka1 out ((k - 1) * 2 + 1) 0 = l.2 := by
  obtain ⟨h1, h2⟩ := h
  cases e : (ka5 i (qN o)).foldl jD [] with
  | nil => rw [e] at h2; simp at h2; omega
  | cons l r =>
    rw [e] at h1 h2
    rw [kf8] at h1
    have h3 : r.length = k - 1 := by simp at h2; omega
    refine ⟨l, r, rfl, h1, h3, ?_⟩
    rw [h1, ← h3, ← (kc0 : r.reverse.length = r.length)]; exact u1m _ _
theorem MG.next {o : List Int} {n i : Nat} (hl : o.length = n * 2) (hi : i < n) : (ka5 (i + 1) (qN o)).foldl jD [] = jD ((ka5 i (qN o)).foldl jD []) (ka1 o (i * 2) 0, ka1 o (i * 2 + 1) 0) := by
  rw [yN hl hi, List.foldl_append]; rfl
theorem MG.new {o out q : List Int} {n i k : Nat} {a b : Int} (h : MG o i k out) (hl : o.length = n * 2) (hi : i < n) (ha : a = ka1 o (i * 2) 0) (hb : b = ka1 o (i * 2 + 1) 0) (h2 : k = 0 ∨ ka1 out ((k - 1) * 2 + 1) 0 + 1 < a) (hq : q = out ++ [a, b]) : MG o (i + 1) (k + 1) q := by
  unfold MG
  rw [MG.next hl hi, ← ha, ← hb, hq]
  rcases km0 k with h0 | h0
  · have h3 := h.2
    rw [h0] at h3
    have e := kd6 h3
    rw [h.1, e]; subst h0; exact ⟨rfl, rfl⟩
  · obtain ⟨l, r, e, e1, e2, e3⟩ := h.last h0
    rw [e]
    have h4 : l.2 + 1 < a := by
      rcases h2 with h2 | h2
      · omega
      · rw [e3] at h2; exact h2
    have e5 : jD (l :: r) (a, b) = (a, b) :: l :: r := by
      show (if a ≤ l.2 + 1 then _ else _) = _
      rw [if_neg (by omega)]
    rw [e5, e1]
    refine ⟨?_, by simp only [kb0]; omega⟩
    rw [kf8, kf8, gH (r.reverse ++ [l])]; rfl
theorem MG.join {o out q : List Int} {n i k : Nat} {a b v : Int} (h : MG o i k out) (hl : o.length = n * 2) (hi : i < n) (ha : a = ka1 o (i * 2) 0) (hb : b = ka1 o (i * 2 + 1) 0) (hk : 1 ≤ k) (h2 : a ≤ ka1 out ((k - 1) * 2 + 1) 0 + 1) (hv : v = max (ka1 out ((k - 1) * 2 + 1) 0) b) (hq : q = List.set out ((k - 1) * 2 + 1) v) : MG o (i + 1) k q := by
  unfold MG
  rw [MG.next hl hi, ← ha, ← hb, hq]
  obtain ⟨l, r, e, e1, e2, e3⟩ := h.last hk
  rw [e]
  rw [e3] at h2 hv
  have e5 : jD (l :: r) (a, b) = (l.1, max l.2 b) :: r := by
    show (if a ≤ l.2 + 1 then _ else _) = _
    rw [if_pos h2]
  rw [e5, e1, ← e2]
  refine ⟨?_, by simp only [kb0]; omega⟩
  rw [← (kc0 : r.reverse.length = r.length), u78, kf8, hv]
theorem MG.fin {o out : List Int} {n i k : Nat} (h : MG o i k out) (hl : o.length = n * 2) (hi : n ≤ i) : out = fl (jnP (qN o)) ∧ (jnP (qN o)).length = k := by
  unfold MG at h
  rw [kb7 (by rw [qX hl]; exact hi)] at h
  refine ⟨h.1, ?_⟩
  unfold jnP jnR; rw [kc0]; exact h.2
theorem v0p : ∀ (s o : List Sp), (∀ p ∈ o, dA p) → (∀ p ∈ s, dA p) → ∀ p ∈ s.foldl jD o, 0 ≤ p.1 ∧ 0 ≤ p.2 ∧ p.2 ≤ 2147483647
  | [], o, h, _, p, hp => by have := h p hp; unfold dA at this; omega
  | x :: s, o, h, hs, p, hp => by
    refine v0p s (jD o x) (fun q hq => ?_) (fun q hq => hs q (kb8 _ hq)) p hp
    have hx := hs x (kb3 ..)
    cases o with
    | nil => rw [List.mem_singleton.1 (show q ∈ [x] from hq)]; exact hx
    | cons l r =>
      have hl := h l (kb3 ..)
      have hq : q ∈ (if x.1 ≤ l.2 + 1 then (l.1, max l.2 x.2) :: r else x :: l :: r) := hq
      unfold dA at hx hl
      split at hq
      · rcases List.mem_cons.1 hq with rfl | hq
        · exact ⟨hl.1, by show l.1 ≤ max l.2 x.2; omega, by show max l.2 x.2 ≤ _; omega⟩
        · exact h q (kb8 _ hq)
      · rcases List.mem_cons.1 hq with rfl | hq
        · exact hx
        · exact h q hq
theorem MG.hi {o out : List Int} {n i k : Nat} (h : MG o i k out) (hl : o.length = n * 2) (hr : RG o n) (hk : 1 ≤ k) : 0 ≤ ka1 out ((k - 1) * 2 + 1) 0 ∧ ka1 out ((k - 1) * 2 + 1) 0 ≤ 2147483647 := by
  obtain ⟨l, r, e, _, _, e3⟩ := h.last hk
  rw [e3]
  have := v0p (ka5 i (qN o)) [] (fun _ h => (by cases h)) (fun p hp => hr.v hl p (kh0 hp)) l (by rw [e]; exact kb3 ..)
  exact ⟨this.2.1, this.2.2⟩
/-! the functions on lists -/
def rgE (l : List Int) (j : Nat) : Bool := decide (0 ≤ ka1 l (j * 2) 0 ∧ ka1 l (j * 2) 0 ≤ ka1 l (j * 2 + 1) 0 ∧ ka1 l (j * 2 + 1) 0 ≤ 2147483647)
def rgB (l : List Int) (n : Nat) : Bool := (List.range n).all (rgE l)
theorem u9j {l : List Int} {n : Nat} (h : ∀ j, j < n → rgE l j = true) : rgB l n = true := List.all_eq_true.2 fun j hj => h j (List.mem_range.1 hj)
theorem u63 {l : List Int} {n k : Nat} (hk : k < n) (h : rgE l k = false) : rgB l n = false := by
  cases hb : rgB l n with
  | false => rfl
  | true => have := List.all_eq_true.1 hb k (List.mem_range.2 hk); rw [h] at this; cases this
theorem i6 {l : List Int} {n : Nat} : rgB l n = true ↔ RG l n := ⟨fun h j hj => of_decide_eq_true (List.all_eq_true.1 h j (List.mem_range.2 hj)), fun h => u9j fun j hj => decide_eq_true (h j hj)⟩
def tI (l : List Int) : List Int := fl (mkP (qN l))
def lI (l : List Int) : Nat := (mkP (qN l)).length
theorem k01 (l : List Int) : (tI l).length = lI l * 2 := dV _
theorem k6t {l : List Int} {n : Nat} (hl : l.length = n * 2) (hr : RG l n) : lI l ≤ n := by
  have := (k6a (hr.v hl)).2.2
  rw [qX hl] at this; exact this
theorem u6s {l o out : List Int} {n k : Nat} (hl : l.length = n * 2) (hr : RG l n) (ho : o.length = n * 2) (hp : (qN o).Perm (qN l)) (hs : srP (qN o)) (h : MG o n k out) : out = tI l ∧ lI l = k := by
  obtain ⟨h1, h2⟩ := h.fin ho (kb9 _)
  rw [k39 (hr.v hl) hp hs] at h1 h2
  exact ⟨h1, h2⟩
def nR (l : List Int) (n : Nat) : Int := if rgB l n = true then (if lI l ≤ 64 then 0 else 3) else 2
def d5 (l : List Int) (n : Nat) : List Int := if rgB l n = true ∧ lI l ≤ 64 then tI l else []
def vE (l : List Int) (n : Nat) : Nat := if rgB l n = true ∧ lI l ≤ 64 then lI l else 0
theorem rL {l : List Int} {n : Nat} (h : rgB l n = false) : nR l n = 2 ∧ d5 l n = [] ∧ vE l n = 0 := by
  unfold nR d5 vE; rw [h]
  exact ⟨if_neg ki0, if_neg fun h => absurd h.1 ki0, if_neg fun h => absurd h.1 ki0⟩
theorem k6b {l : List Int} {n : Nat} (h : rgB l n = true) (h2 : 64 < lI l) : nR l n = 3 ∧ d5 l n = [] ∧ vE l n = 0 := by
  unfold nR d5 vE
  rw [if_pos h]
  exact ⟨if_neg (by omega), if_neg fun h => by omega, if_neg fun h => by omega⟩
theorem rK {l : List Int} {n : Nat} (h : rgB l n = true) (h2 : lI l ≤ 64) : nR l n = 0 ∧ d5 l n = tI l ∧ vE l n = lI l := by
  unfold nR d5 vE
  rw [if_pos h]
  exact ⟨if_pos h2, if_pos ⟨h, h2⟩, if_pos ⟨h, h2⟩⟩
theorem gZ (l : List Int) (n : Nat) : (d5 l n).length = vE l n * 2 := by
  unfold d5 vE; split
  · exact k01 l
  · rfl
theorem mQ (l : List Int) (n : Nat) : (0 ≤ nR l n ∧ nR l n ≤ 3) ∧ vE l n ≤ 64 := by
  constructor
  · unfold nR; (repeat' split) <;> omega
  · unfold vE; split <;> omega
theorem k6d {l : List Int} {n : Nat} (hl : l.length = n * 2) : bN (qN (d5 l n)) := by
  unfold d5; split
  · rename_i h; unfold tI; rw [gC]; exact (k6a ((i6.1 h.1).v hl)).1
  · trivial
theorem u6k {l : List Int} {n : Nat} (hl : l.length = n * 2) : eB (d5 l n) (vE l n) = true := (v9 (gZ l n)).2 ⟨(mQ l n).2, k6d hl⟩
/-! members -/
def aW (l : List Int) (x : Int) : Bool := (qN l).any fun p => decide (p.1 ≤ x ∧ x ≤ p.2)
theorem yZ {l : List Int} {x : Int} : aW l x = true ↔ bP (qN l) x := by
  unfold aW bP
  rw [kh1]
  constructor
  · rintro ⟨p, hp, h⟩; exact ⟨p, hp, of_decide_eq_true h⟩
  · rintro ⟨p, hp, h⟩; exact ⟨p, hp, decide_eq_true h⟩
theorem u1i {l : List Int} {n k : Nat} {x : Int} (hl : l.length = n * 2) (hk : k < n) (h : ka1 l (k * 2) 0 ≤ x ∧ x ≤ ka1 l (k * 2 + 1) 0) : aW l x = true := yZ.2 ⟨_, (u6 hl).2 ⟨k, hk, rfl⟩, h⟩
theorem v4r {l : List Int} {n : Nat} {x : Int} (hl : l.length = n * 2) (h : ∀ j, j < n → ¬ (ka1 l (j * 2) 0 ≤ x ∧ x ≤ ka1 l (j * 2 + 1) 0)) : aW l x = false := by
  cases hb : aW l x with
  | false => rfl
  | true =>
    obtain ⟨p, hp, h1⟩ := yZ.1 hb
    obtain ⟨j, hj, rfl⟩ := (u6 hl).1 hp
    exact absurd h1 (h j hj)
/-! inside -/
def x7 (b : List Int) (p q : Int) : Bool := (qN b).any (ctE (p, q))
theorem v51 {b : List Int} {m k : Nat} {p q : Int} (hl : b.length = m * 2) (hk : k < m) (h : ka1 b (k * 2) 0 ≤ p ∧ q ≤ ka1 b (k * 2 + 1) 0) : x7 b p q = true := by
  unfold x7
  rw [kh1]
  exact ⟨_, (u6 hl).2 ⟨k, hk, rfl⟩, decide_eq_true h⟩
theorem v52 {b : List Int} {m : Nat} {p q : Int} (hl : b.length = m * 2) (h : ∀ j, j < m → ¬ (ka1 b (j * 2) 0 ≤ p ∧ q ≤ ka1 b (j * 2 + 1) 0)) : x7 b p q = false := by
  cases hb : x7 b p q with
  | false => rfl
  | true =>
    unfold x7 at hb
    rw [kh1] at hb
    obtain ⟨r, hr, h1⟩ := hb
    obtain ⟨j, hj, rfl⟩ := (u6 hl).1 hr
    exact absurd (of_decide_eq_true h1) (h j hj)
def wT (a b : List Int) : Bool := inP (qN a) (qN b)
theorem v4p {a b : List Int} {n : Nat} (hl : a.length = n * 2) (h : ∀ j, j < n → x7 b (ka1 a (j * 2) 0) (ka1 a (j * 2 + 1) 0) = true) : wT a b = true := by
  unfold wT inP
  rw [ke7]
  intro p hp
  obtain ⟨j, hj, rfl⟩ := (u6 hl).1 hp
  exact h j hj
theorem v4q {a b : List Int} {n k : Nat} (hl : a.length = n * 2) (hk : k < n) (h : x7 b (ka1 a (k * 2) 0) (ka1 a (k * 2 + 1) 0) = false) : wT a b = false := by
  cases hb : wT a b with
  | false => rfl
  | true =>
    unfold wT inP at hb
    rw [ke7] at hb
    have := hb _ ((u6 hl).2 ⟨k, hk, rfl⟩)
    exact absurd (h.symm.trans this) (by decide)
/-! the nearest -/
def NR (n : Int) (l : List Int) (i : Nat) (b : Int) (f : Bool) : Prop := nrP n (ka5 i (qN l)) none = (if f = true then some b else none) ∧ (f = false → b = 0)
theorem lE (n : Int) (p : Sp) : ∀ (s : List Sp) (o : Option Int), nrP n (s ++ [p]) o = match nrP n s o with
    | none => some (gJ n p)
    | some v => if aG (gJ n p) n < aG v n then some (gJ n p) else some v
  | [], o => rfl
  | q :: s, o => lE n p s _
theorem NR.zero (n : Int) (l : List Int) : NR n l 0 0 false := ⟨rfl, fun _ => rfl⟩
theorem NR.first {n : Int} {l : List Int} {i m : Nat} {b v : Int} (h : NR n l i b false) (hl : l.length = m * 2) (hi : i < m) (hv : v = gJ n (ka1 l (i * 2) 0, ka1 l (i * 2 + 1) 0)) : NR n l (i + 1) v true := by
  refine ⟨?_, fun h => by cases h⟩
  rw [yN hl hi, lE, h.1, hv]; rfl
theorem NR.near {n : Int} {l : List Int} {i m : Nat} {b v : Int} (h : NR n l i b true) (hl : l.length = m * 2) (hi : i < m) (hv : v = gJ n (ka1 l (i * 2) 0, ka1 l (i * 2 + 1) 0)) (hd : aG v n < aG b n) : NR n l (i + 1) v true := by
  refine ⟨?_, fun h => by cases h⟩
  rw [yN hl hi, lE, h.1, ← hv]
  show (if aG v n < aG b n then some v else some b) = some v
  rw [if_pos hd]
theorem NR.far {n : Int} {l : List Int} {i m : Nat} {b v : Int} (h : NR n l i b true) (hl : l.length = m * 2) (hi : i < m) (hd : ¬ aG v n < aG b n) (hv : v = gJ n (ka1 l (i * 2) 0, ka1 l (i * 2 + 1) 0)) : NR n l (i + 1) b true := by
  refine ⟨?_, fun h => by cases h⟩
  rw [yN hl hi, lE, h.1, ← hv]
  show (if aG v n < aG b n then some v else some b) = some b
  rw [if_neg hd]
def y7 (n : Int) (l : List Int) : Int := (nrP n (qN l) none).getD 0
def nrF (n : Int) (l : List Int) : Bool := (nrP n (qN l) none).isSome
theorem NR.fin {n : Int} {l : List Int} {i m : Nat} {b : Int} {f : Bool} (h : NR n l i b f) (hl : l.length = m * 2) (hi : m ≤ i) : y7 n l = b ∧ nrF n l = f := by
  have h1 := h.1
  rw [kb7 (by rw [qX hl]; exact hi)] at h1
  unfold y7 nrF
  rw [h1]
  cases f with
  | true => exact ⟨rfl, rfl⟩
  | false => exact ⟨(h.2 rfl).symm, rfl⟩
/-! intersections -/
def uB (a b : List Int) : List Int := fl (ka5 64 (aL (qN a) (qN b)))
def qL (a b : List Int) : Nat := (ka5 64 (aL (qN a) (qN b))).length
theorem uS (a b : List Int) : (uB a b).length = qL a b * 2 := dV _
theorem v7 (a b : List Int) : qL a b ≤ 64 := by unfold qL; rw [kb4]; omega
structure IX (a b : List Int) (i j k : Nat) (out : List Int) : Prop where
  ex : ∃ q, out = fl q ∧ q.length = k ∧ q ++ aL (ka3 i (qN a)) (ka3 j (qN b)) = aL (qN a) (qN b)
theorem IX.zero (a b : List Int) : IX a b 0 0 0 [] := ⟨[], rfl, rfl, rfl⟩
theorem IX.len {a b out : List Int} {i j k : Nat} (h : IX a b i j k out) : out.length = k * 2 := by
  obtain ⟨q, rfl, rfl, _⟩ := h; exact dV q
theorem mO : ∀ (k : Nat) {s : List Sp}, bN s → bN (ka3 k s)
  | 0, _, h => h
  | k + 1, [], _ => trivial
  | k + 1, p :: s, h => mO k h.2.2
theorem IX.put {a b out o : List Int} {n m i j k : Nat} {u v : Int} (h : IX a b i j k out) (ha : a.length = n * 2) (hb : b.length = m * 2) (oa : bN (qN a)) (ob : bN (qN b)) (hi : i < n) (hj : j < m) (hu : u = max (ka1 a (i * 2) 0) (ka1 b (j * 2) 0)) (hv : v = min (ka1 a (i * 2 + 1) 0) (ka1 b (j * 2 + 1) 0)) (ho : (u ≤ v ∧ o = out ++ [u, v]) ∨ (¬ u ≤ v ∧ o = out)) :
    (ka1 a (i * 2 + 1) 0 < ka1 b (j * 2 + 1) 0 → IX a b (i + 1) j (if u ≤ v then k + 1 else k) o) ∧ (¬ ka1 a (i * 2 + 1) 0 < ka1 b (j * 2 + 1) 0 → IX a b i (j + 1) (if u ≤ v then k + 1 else k) o) := by
  obtain ⟨q, e1, e2, e3⟩ := h
  rw [bW ha hi, bW hb hj] at e3
  have oa2 := mO i oa
  have ob2 := mO j ob
  rw [bW ha hi] at oa2
  rw [bW hb hj] at ob2
  have hE : lJ (ka1 a (i * 2) 0, ka1 a (i * 2 + 1) 0) (ka1 b (j * 2) 0, ka1 b (j * 2 + 1) 0) = if u ≤ v then [(u, v)] else [] := by unfold lJ; rw [hu, hv]
  have hq : o = fl (q ++ (if u ≤ v then [(u, v)] else [])) ∧ (q ++ (if u ≤ v then [(u, v)] else [])).length = if u ≤ v then k + 1 else k := by
    rcases ho with ⟨h1, h2⟩ | ⟨h1, h2⟩
    · rw [if_pos h1, if_pos h1, h2, e1, gH, ka8, e2]; exact ⟨rfl, rfl⟩
    · rw [if_neg h1, if_neg h1, h2, e1, ke2]; exact ⟨rfl, e2⟩
  constructor
  · intro hlt
    rw [k1v ob2 hlt, hE, ← bW hb hj, ← kc9] at e3
    exact ⟨_, hq.1, hq.2, e3⟩
  · intro hlt
    rw [wM oa2 hlt, hE, ← bW ha hi, ← kc9] at e3
    exact ⟨_, hq.1, hq.2, e3⟩
theorem IX.fin {a b out : List Int} {n m i j k : Nat} (h : IX a b i j k out) (ha : a.length = n * 2) (hb : b.length = m * 2) (hk : k ≤ 64) (hf : n ≤ i ∨ m ≤ j ∨ k = 64) : out = uB a b ∧ qL a b = k := by
  obtain ⟨q, e1, e2, e3⟩ := h
  have e4 : ka5 64 (aL (qN a) (qN b)) = q := by
    rw [← e3]
    rcases ki8 k 64 with h9 | h9
    · have e5 : aL (ka3 i (qN a)) (ka3 j (qN b)) = [] := by
        rcases hf with hf | hf | hf
        · rw [kk6 (by rw [qX ha]; exact hf)]; rfl
        · rw [show ka3 j (qN b) = [] from kk6 (by rw [qX hb]; exact hf)]; exact jE _
        · omega
      rw [e5, ke2, kb7 (by omega)]
    · exact km3 (by omega)
  unfold uB qL
  rw [e4]; exact ⟨e1, e2⟩
def AL (a b : List Int) (i k : Nat) (out : List Int) : Prop := out = fl (aL (ka5 i (qN a)) (qN b)) ∧ (aL (ka5 i (qN a)) (qN b)).length = k
def AJ (a b : List Int) (i j k : Nat) (out : List Int) : Prop := out = fl (aL (ka5 i (qN a)) (qN b) ++ tJ (ka1 a (i * 2) 0, ka1 a (i * 2 + 1) 0) (ka5 j (qN b))) ∧ (aL (ka5 i (qN a)) (qN b) ++ tJ (ka1 a (i * 2) 0, ka1 a (i * 2 + 1) 0) (ka5 j (qN b))).length = k
theorem AL.zero (a b : List Int) : AL a b 0 0 [] := ⟨rfl, rfl⟩
theorem AL.in {a b out : List Int} {i k : Nat} (h : AL a b i k out) : AJ a b i 0 k out := by
  unfold AJ
  rw [show tJ (ka1 a (i * 2) 0, ka1 a (i * 2 + 1) 0) (ka5 0 (qN b)) = [] from rfl, ke2]; exact h
theorem wN (p : Sp) (s : List Sp) (q : Sp) : tJ p (s ++ [q]) = tJ p s ++ lJ p q := by unfold tJ; rw [kl0]; simp
theorem k6x (s : List Sp) (p : Sp) (b : List Sp) : aL (s ++ [p]) b = aL s b ++ tJ p b := by unfold aL; rw [kl0]; simp
theorem AJ.y {a b out o : List Int} {m i j k : Nat} {u v : Int} (h : AJ a b i j k out) (hb : b.length = m * 2) (hj : j < m) (hu : u = max (ka1 a (i * 2) 0) (ka1 b (j * 2) 0)) (hv : v = min (ka1 a (i * 2 + 1) 0) (ka1 b (j * 2 + 1) 0)) (h1 : u ≤ v) (ho : o = out ++ [u, v]) : AJ a b i (j + 1) (k + 1) o := by
  have hE : lJ (ka1 a (i * 2) 0, ka1 a (i * 2 + 1) 0) (ka1 b (j * 2) 0, ka1 b (j * 2 + 1) 0) = [(u, v)] := by
    unfold lJ; rw [← hu, ← hv, if_pos h1]
  unfold AJ
  rw [yN hb hj, wN, hE, ← kc9, gH, ka8, ← h.1, h.2, ho]; exact ⟨rfl, rfl⟩
theorem AJ.n {a b out : List Int} {m i j k : Nat} (h : AJ a b i j k out) (hb : b.length = m * 2) (hj : j < m) (h1 : ¬ max (ka1 a (i * 2) 0) (ka1 b (j * 2) 0) ≤ min (ka1 a (i * 2 + 1) 0) (ka1 b (j * 2 + 1) 0)) : AJ a b i (j + 1) k out := by
  have hE : lJ (ka1 a (i * 2) 0, ka1 a (i * 2 + 1) 0) (ka1 b (j * 2) 0, ka1 b (j * 2 + 1) 0) = [] := by
    unfold lJ; rw [if_neg h1]
  unfold AJ
  rw [yN hb hj, wN, hE, ke2]; exact h
theorem AJ.out {a b out : List Int} {n m i j k : Nat} (h : AJ a b i j k out) (ha : a.length = n * 2) (hi : i < n) (hb : b.length = m * 2) (hj : m ≤ j) : AL a b (i + 1) k out := by
  unfold AJ at h
  rw [kb7 (l := qN b) (by rw [qX hb]; exact hj), ← k6x, ← yN ha hi] at h
  exact h
theorem AL.fin {a b out : List Int} {n i k : Nat} (h : AL a b i k out) (ha : a.length = n * 2) (hi : n ≤ i) : out = fl (aL (qN a) (qN b)) ∧ (aL (qN a) (qN b)).length = k := by
  unfold AL at h
  rw [kb7 (by rw [qX ha]; exact hi)] at h; exact h
def alS (a b : List Int) : List Int := fl (aL (qN a) (qN b))
def gN (a b : List Int) : Nat := (aL (qN a) (qN b)).length
theorem u81 (a b : List Int) : (alS a b).length = gN a b * 2 := dV _
theorem k21 : ∀ (k : Nat) (s : List Sp), fl (ka5 k s) = ka5 (k * 2) (fl s)
  | 0, s => by rw [Nat.zero_mul]; rfl
  | k + 1, [] => by simp [fl]
  | k + 1, p :: s => by
    show p.1 :: p.2 :: fl (ka5 k s) = _
    rw [k21 k s, show (k + 1) * 2 = k * 2 + 1 + 1 by omega]; rfl
theorem u3v {a b : List Int} {k : Nat} (hk : k = min (gN a b) 64) : uB a b = ka5 (k * 2) (alS a b) ∧ qL a b = k := by
  unfold uB qL alS
  rw [kb4, ← k21, hk]
  refine ⟨?_, by unfold gN; omega⟩
  congr 1
  unfold gN
  rcases ki8 (aL (qN a) (qN b)).length 64 with h | h
  · rw [Nat.min_eq_left (by omega), kb7 (by omega), kb7 (kb9 _)]
  · rw [Nat.min_eq_right h]
theorem k75 {o : List Int} {k n : Nat} {p : Int} (h : ∀ j, k ≤ j → j < n → p < ka1 o (j * 2) 0) (h1 : p < ka1 o ((k - 1) * 2) 0) (hk : 1 ≤ k) : ∀ j, k - 1 ≤ j → j < n → p < ka1 o (j * 2) 0 := fun j hj hn => by
  rcases ki8 j k with h7 | h7
  · rw [show j = k - 1 by omega]; exact h1
  · exact h j h7 hn
theorem k0r {l : List Int} {k : Nat} (ha : ∀ j, j < k → vaE l j = true) (h : 1 ≤ k) : 0 ≤ ka1 l ((k - 1) * 2 + 1) 0 ∧ ka1 l ((k - 1) * 2 + 1) 0 ≤ 2147483647 := by
  have := of_decide_eq_true (ha (k - 1) (by omega)); omega
theorem u96 {l : List Int} {n : Nat} (hl : l.length = n * 2) : RG (kB l n) (kW l n) := u06 (qQ hl) (cS (aY hl))
theorem IX.ly {a b out : List Int} {n m i j k : Nat} {u v : Int} (h : IX a b i j k out) (ha : a.length = n * 2) (hb : b.length = m * 2) (oa : bN (qN a)) (ob : bN (qN b)) (hi : i < n) (hj : j < m) (hu : u = max (ka1 a (i * 2) 0) (ka1 b (j * 2) 0)) (hv : v = min (ka1 a (i * 2 + 1) 0) (ka1 b (j * 2 + 1) 0)) (h1 : u ≤ v) (h2 : ka1 a (i * 2 + 1) 0 < ka1 b (j * 2 + 1) 0) : IX a b (i + 1) j (k + 1) (out ++ [u, v]) := by
  have h9 := (h.put ha hb oa ob hi hj hu hv (.inl ⟨h1, rfl⟩)).1 h2
  rw [if_pos h1] at h9; exact h9
theorem IX.ln {a b out : List Int} {n m i j k : Nat} (h : IX a b i j k out) (ha : a.length = n * 2) (hb : b.length = m * 2) (oa : bN (qN a)) (ob : bN (qN b)) (hi : i < n) (hj : j < m) (h1 : ¬ max (ka1 a (i * 2) 0) (ka1 b (j * 2) 0) ≤ min (ka1 a (i * 2 + 1) 0) (ka1 b (j * 2 + 1) 0)) (h2 : ka1 a (i * 2 + 1) 0 < ka1 b (j * 2 + 1) 0) : IX a b (i + 1) j k out := by
  have h9 := (h.put ha hb oa ob hi hj rfl rfl (.inr ⟨h1, rfl⟩)).1 h2
  rw [if_neg h1] at h9; exact h9
theorem IX.ry {a b out : List Int} {n m i j k : Nat} {u v : Int} (h : IX a b i j k out) (ha : a.length = n * 2) (hb : b.length = m * 2) (oa : bN (qN a)) (ob : bN (qN b)) (hi : i < n) (hj : j < m) (hu : u = max (ka1 a (i * 2) 0) (ka1 b (j * 2) 0)) (hv : v = min (ka1 a (i * 2 + 1) 0) (ka1 b (j * 2 + 1) 0)) (h1 : u ≤ v) (h2 : ¬ ka1 a (i * 2 + 1) 0 < ka1 b (j * 2 + 1) 0) : IX a b i (j + 1) (k + 1) (out ++ [u, v]) := by
  have h9 := (h.put ha hb oa ob hi hj hu hv (.inl ⟨h1, rfl⟩)).2 h2
  rw [if_pos h1] at h9; exact h9
theorem IX.rn {a b out : List Int} {n m i j k : Nat} (h : IX a b i j k out) (ha : a.length = n * 2) (hb : b.length = m * 2) (oa : bN (qN a)) (ob : bN (qN b)) (hi : i < n) (hj : j < m) (h1 : ¬ max (ka1 a (i * 2) 0) (ka1 b (j * 2) 0) ≤ min (ka1 a (i * 2 + 1) 0) (ka1 b (j * 2 + 1) 0)) (h2 : ¬ ka1 a (i * 2 + 1) 0 < ka1 b (j * 2 + 1) 0) : IX a b i (j + 1) k out := by
  have h9 := (h.put ha hb oa ob hi hj rfl rfl (.inr ⟨h1, rfl⟩)).2 h2
  rw [if_neg h1] at h9; exact h9
theorem dp1 {A : List Int} {i n : Nat} (h : A.length = n * 2) : dI .i64 (ka3 ((i + 1) * 2) A) = dI .i64 (ka5 ((n - i - 1) * 2) (ka3 2 (ka3 (i * 2) A))) := by
  rw [List.drop_drop, kb7 (by rw [kb6]; omega), show i * 2 + 2 = (i + 1) * 2 by omega]
/-! the first span that holds another one -/
def lN (b : List Int) (u v : Int) : Nat → Int
  | 0 => -1
  | k + 1 => if 0 ≤ lN b u v k then lN b u v k else if ka1 b (k * 2) 0 ≤ u ∧ v ≤ ka1 b (k * 2 + 1) 0 then (k : Int) else -1
theorem k2d {b : List Int} {u v : Int} {k : Nat} (h : lN b u v k = -1) (h2 : ¬ (ka1 b (k * 2) 0 ≤ u ∧ v ≤ ka1 b (k * 2 + 1) 0)) : lN b u v (k + 1) = -1 := by
  show (if 0 ≤ lN b u v k then _ else _) = _
  rw [if_neg (by omega), if_neg h2]
theorem k0m {b : List Int} {u v : Int} {k : Nat} (h : lN b u v k = -1) (h2 : ka1 b (k * 2) 0 ≤ u ∧ v ≤ ka1 b (k * 2 + 1) 0) : ∀ n, k < n → lN b u v n = (k : Int)
  | n + 1, hn => by
    by_cases hk : k = n
    · subst hk
      show (if 0 ≤ lN b u v k then _ else _) = _
      rw [if_neg (by omega), if_pos h2]
    · have := k0m h h2 n (by omega)
      show (if 0 ≤ lN b u v n then _ else _) = _
      rw [if_pos (by omega)]; exact this
theorem sM (b : List Int) (u v : Int) : ∀ n, (lN b u v n = -1 ∧ ∀ j, j < n → ¬ (ka1 b (j * 2) 0 ≤ u ∧ v ≤ ka1 b (j * 2 + 1) 0)) ∨ ∃ k, k < n ∧ lN b u v n = (k : Int) ∧ ka1 b (k * 2) 0 ≤ u ∧ v ≤ ka1 b (k * 2 + 1) 0
  | 0 => .inl ⟨rfl, fun j hj => absurd hj (Nat.not_lt_zero j)⟩
  | n + 1 => by
    rcases sM b u v n with ⟨h, h2⟩ | ⟨k, h1, h2, h3⟩
    · by_cases h9 : ka1 b (n * 2) 0 ≤ u ∧ v ≤ ka1 b (n * 2 + 1) 0
      · exact .inr ⟨n, by omega, k0m h h9 _ (by omega), h9⟩
      · exact .inl ⟨k2d h h9, fun j hj => (Nat.lt_succ_iff_lt_or_eq.1 hj).elim (h2 j) (fun e => by subst e; exact h9)⟩
    · refine .inr ⟨k, by omega, ?_, h3⟩
      show (if 0 ≤ lN b u v n then _ else _) = _
      rw [if_pos (by omega)]; exact h2
theorem v53 {b : List Int} {u v : Int} {m : Nat} (hb : b.length = m * 2) (h : 0 ≤ lN b u v m) : x7 b u v = true := by
  rcases sM b u v m with ⟨h1, _⟩ | ⟨k, h1, _, h3⟩
  · omega
  · exact v51 hb h1 h3
theorem v54 {b : List Int} {u v : Int} {m : Nat} (hb : b.length = m * 2) (h : ¬ 0 ≤ lN b u v m) : x7 b u v = false := by
  rcases sM b u v m with ⟨_, h1⟩ | ⟨k, _, h1, _⟩
  · exact v52 hb h1
  · omega
def CJ (b : List Int) (u v : Int) (j : Nat) (f : Bool) : Prop := f = (ka5 j (qN b)).any (ctE (u, v))
theorem CJ.zero (b : List Int) (u v : Int) : CJ b u v 0 false := rfl
theorem CJ.yes {b : List Int} {u v : Int} {j m : Nat} (h : CJ b u v j false) (hb : b.length = m * 2) (hj : j < m) (h1 : ka1 b (j * 2) 0 ≤ u ∧ v ≤ ka1 b (j * 2 + 1) 0) : CJ b u v (j + 1) true := by
  unfold CJ at *; rw [yN hb hj, km4, ← h]
  show true = (decide _ || false)
  rw [decide_eq_true (show ka1 b (j * 2) 0 ≤ u ∧ v ≤ ka1 b (j * 2 + 1) 0 from h1)]; rfl
theorem CJ.no {b : List Int} {u v : Int} {j m : Nat} (h : CJ b u v j false) (hb : b.length = m * 2) (hj : j < m) (h1 : ¬ (ka1 b (j * 2) 0 ≤ u ∧ v ≤ ka1 b (j * 2 + 1) 0)) : CJ b u v (j + 1) false := by
  unfold CJ at *; rw [yN hb hj, km4, ← h]
  show false = (decide _ || false)
  rw [decide_eq_false (show ¬ (ka1 b (j * 2) 0 ≤ u ∧ v ≤ ka1 b (j * 2 + 1) 0) from h1)]; rfl
theorem CJ.fin {b : List Int} {u v : Int} {j m : Nat} {f : Bool} (h : CJ b u v j f) (hb : b.length = m * 2) (hj : m ≤ j) : x7 b u v = f := by
  unfold CJ at h; rw [kb7 (by rw [qX hb]; exact hj)] at h; exact h.symm
theorem sI {a b : Int} : 0 ≤ aG a b := by unfold aG; split <;> omega
theorem dC (x : Int) : IntKind.u64.wrap x = x % 18446744073709551616 := by simp [IntKind.wrap, IntKind.bits, IntKind.signed]
end Go.Proofs.YtbicifcgghmhaaaGreat
