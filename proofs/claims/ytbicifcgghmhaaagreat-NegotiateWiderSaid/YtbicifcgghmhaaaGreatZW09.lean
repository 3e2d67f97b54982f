/- Sets of integers. No statement is proved here. -/
import Derived.Test.YtbicifcgghmhaaaGreatZLBy
namespace Go.Proofs.YtbicifcgghmhaaaGreat
open Go.ChangeShapes Go.WideShapes Go.ChangeAt Go.RowKit
open Bool renaming false_ne_true → ki0
open Int renaming le_refl → kd1
open List renaming all_eq_true → ke7, any_append → km6, any_eq_true → kh1, append_assoc → kc9, append_nil → ke2, drop → ka3, drop_of_length_le → kk5, eq_nil_of_length_eq_zero → kd6, flatMap_append → kl2, getD → ka1, getElem?_drop → ke3, getElem?_eq_getElem → ka7, length_append → ka8, length_cons → kb0, length_drop → kb6, length_nil → kb2, length_reverse → kc0, length_take → kb4, mem_cons_of_mem → kb9, mem_cons_self → kb3, mem_of_getElem? → ke1, mem_of_mem_take → kh0, reverse_cons → kf9, take → ka5, take_append_drop → kg5, take_left' → km5, take_of_length_le → kb7
open Nat renaming eq_zero_or_pos → km2, le_refl → kb8, lt_or_ge → ki9, zero_le → kd7
set_option linter.unusedVariables false
set_option linter.unusedSimpArgs false
/-! sets of integers: spans as pairs -/
abbrev Sp := Int × Int
def dD (p : Sp) : Prop := 0 ≤ p.1 ∧ p.1 ≤ p.2 ∧ p.2 ≤ 2147483647
def bW : List Sp → Prop
  | [] => True
  | p :: r => dD p ∧ (∀ q ∈ r, p.2 + 1 < q.1) ∧ bW r
def bZ (ps : List Sp) (x : Int) : Prop := ∃ p ∈ ps, p.1 ≤ x ∧ x ≤ p.2
theorem bY (x : Int) : ¬ bZ [] x := fun ⟨p, h, _⟩ => by cases h
theorem qP {p : Sp} {r : List Sp} {x : Int} : bZ (p :: r) x ↔ (p.1 ≤ x ∧ x ≤ p.2) ∨ bZ r x := by
  constructor
  · rintro ⟨q, hq, h⟩
    rcases List.mem_cons.1 hq with rfl | hq
    · exact .inl h
    · exact .inr ⟨q, hq, h⟩
  · rintro (h | ⟨q, hq, h⟩)
    · exact ⟨p, kb3 .., h⟩
    · exact ⟨q, kb9 _ hq, h⟩
theorem cW : ∀ {ps : List Sp}, bW ps → ∀ p ∈ ps, dD p
  | [], _, p, hp => by cases hp
  | q :: r, h, p, hp => by
    rcases List.mem_cons.1 hp with rfl | hp
    · exact h.1
    · exact cW h.2.2 p hp
theorem fA {p : Sp} {r : List Sp} (h : ∀ q ∈ r, p.2 + 1 < q.1) {x : Int} (hx : bZ r x) : p.2 + 1 < x := by
  obtain ⟨q, hq, h1, _⟩ := hx
  have := h q hq; omega
theorem k6p : ∀ {a b : List Sp}, bW a → bW b → (∀ x, bZ a x ↔ bZ b x) → a = b
  | [], [], _, _, _ => rfl
  | [], q :: r, _, hb, h => absurd ((h q.1).2 (qP.2 (.inl ⟨kd1 _, hb.1.2.1⟩))) (bY _)
  | p :: r, [], ha, _, h => absurd ((h p.1).1 (qP.2 (.inl ⟨kd1 _, ha.1.2.1⟩))) (bY _)
  | p :: r, q :: s, ha, hb, h => by
    have m1 : bZ (p :: r) p.1 := qP.2 (.inl ⟨kd1 _, ha.1.2.1⟩)
    have m2 : bZ (q :: s) q.1 := qP.2 (.inl ⟨kd1 _, hb.1.2.1⟩)
    have v1 := ha.1; have v2 := hb.1
    unfold dD at v1 v2
    have e1 : p.1 = q.1 := by
      have n1 := qP.1 ((h _).1 m1)
      have n2 := qP.1 ((h _).2 m2)
      have g1 : bZ s p.1 → q.2 + 1 < p.1 := fA hb.2.1
      have g2 : bZ r q.1 → p.2 + 1 < q.1 := fA ha.2.1
      rcases n1 with n1 | n1
      · rcases n2 with n2 | n2
        · omega
        · have := g2 n2; omega
      · have := g1 n1
        rcases n2 with n2 | n2
        · omega
        · have := g2 n2; omega
    have no1 : ¬ bZ (p :: r) (p.2 + 1) := fun hh => by
      rcases qP.1 hh with hh | hh
      · omega
      · have := fA ha.2.1 hh; omega
    have no2 : ¬ bZ (q :: s) (q.2 + 1) := fun hh => by
      rcases qP.1 hh with hh | hh
      · omega
      · have := fA hb.2.1 hh; omega
    have e2 : p.2 = q.2 := by
      rcases Int.lt_trichotomy p.2 q.2 with hlt | heq | hgt
      · exact absurd ((h (p.2 + 1)).2 (qP.2 (.inl ⟨by omega, by omega⟩))) no1
      · exact heq
      · exact absurd ((h (q.2 + 1)).1 (qP.2 (.inl ⟨by omega, by omega⟩))) no2
    obtain ⟨a, b⟩ := p
    obtain ⟨c, d⟩ := q
    obtain rfl : a = c := e1
    obtain rfl : b = d := e2
    congr 1
    refine k6p ha.2.2 hb.2.2 fun x => ?_
    have hx := h x
    rw [qP, qP] at hx
    constructor
    · intro hr
      have := fA ha.2.1 hr
      rcases hx.1 (.inr hr) with h9 | h9
      · exfalso; simp only at this h9; omega
      · exact h9
    · intro hr
      have := fA hb.2.1 hr
      rcases hx.2 (.inr hr) with h9 | h9
      · exfalso; simp only at this h9; omega
      · exact h9
/-! spans that are joined: the last span first -/
def jT (o : List Sp) (x : Sp) : List Sp := match o with
  | [] => [x]
  | l :: r => if x.1 ≤ l.2 + 1 then (l.1, max l.2 x.2) :: r else x :: l :: r
def okR : List Sp → Prop
  | [] => True
  | p :: r => dD p ∧ (∀ q ∈ r, q.2 + 1 < p.1) ∧ okR r
theorem k20 : ∀ {o : List Sp} {r : List Sp}, okR o → bW r → (∀ p ∈ o, ∀ q ∈ r, p.2 + 1 < q.1) → bW (o.reverse ++ r)
  | [], r, _, h, _ => h
  | p :: o, r, ho, hr, h => by
    rw [kf9, kc9]
    refine k20 ho.2.2 ⟨ho.1, fun q hq => h p (kb3 ..) q hq, hr⟩ fun a ha b hb => ?_
    rcases List.mem_cons.1 hb with rfl | hb
    · exact ho.2.1 a ha
    · exact h a (kb9 _ ha) b hb
theorem u7q (o : List Sp) (x : Sp) : (jT o x).length ≤ o.length + 1 := by
  unfold jT
  cases o with
  | nil => exact kb8 _
  | cons l r => show (if _ then _ else _ : List Sp).length ≤ _; split <;> simp
theorem v1s {o : List Sp} {x : Sp} (h : okR o) (hx : dD x) (hl : ∀ l r, o = l :: r → l.1 ≤ x.1) : okR (jT o x) := by
  cases o with
  | nil => exact ⟨hx, fun q hq => (by cases hq), trivial⟩
  | cons l r =>
    have h1 := hl l r rfl
    have hv := h.1
    unfold dD at hv hx
    show okR (if _ then _ else _)
    split
    · refine ⟨⟨hv.1, ?_, ?_⟩, h.2.1, h.2.2⟩
      · show l.1 ≤ max l.2 x.2; omega
      · show max l.2 x.2 ≤ _; omega
    · refine ⟨hx, fun q hq => ?_, h⟩
      rcases List.mem_cons.1 hq with rfl | hq
      · omega
      · have := h.2.1 q hq; omega
theorem v1t {o : List Sp} {x : Sp} (h : okR o) (hx : dD x) (hl : ∀ l r, o = l :: r → l.1 ≤ x.1) (z : Int) : bZ (jT o x) z ↔ bZ o z ∨ (x.1 ≤ z ∧ z ≤ x.2) := by
  cases o with
  | nil => show bZ [x] z ↔ _; rw [qP]; exact or_comm
  | cons l r =>
    have h1 := hl l r rfl
    have hv := h.1
    unfold dD at hv hx
    show bZ (if _ then _ else _) z ↔ _
    split
    · rw [qP, qP]
      show (l.1 ≤ z ∧ z ≤ max l.2 x.2) ∨ _ ↔ _
      constructor
      · rintro (h9 | h9)
        · by_cases h8 : z ≤ l.2
          · exact .inl (.inl ⟨h9.1, h8⟩)
          · exact .inr ⟨by omega, by omega⟩
        · exact .inl (.inr h9)
      · rintro ((h9 | h9) | h9)
        · exact .inl ⟨h9.1, by omega⟩
        · exact .inr h9
        · exact .inl ⟨by omega, by omega⟩
    · rw [qP]; exact or_comm
theorem u21 {o : List Sp} {x : Sp} (hl : ∀ l r, o = l :: r → l.1 ≤ x.1) : ∀ l r, jT o x = l :: r → l.1 ≤ x.1 := by
  intro l r e
  cases o with
  | nil => have e : [x] = l :: r := e; cases e; exact kd1 _
  | cons a s =>
    have h1 := hl a s rfl
    have e : (if x.1 ≤ a.2 + 1 then (a.1, max a.2 x.2) :: s else x :: a :: s) = l :: r := e
    split at e
    · cases e; exact h1
    · cases e; exact kd1 _
def jnR (s : List Sp) : List Sp := s.foldl jT []
def srP (s : List Sp) : Prop := s.Pairwise fun a b => a.1 ≤ b.1
theorem k7i : ∀ (s o : List Sp), okR o → (∀ p ∈ s, dD p) → srP s → (∀ l r, o = l :: r → ∀ p ∈ s, l.1 ≤ p.1) → okR (s.foldl jT o) ∧ (∀ z, bZ (s.foldl jT o) z ↔ bZ o z ∨ bZ s z) ∧ (s.foldl jT o).length ≤ o.length + s.length
  | [], o, h, _, _, _ => ⟨h, fun z => ⟨.inl, fun h => h.elim id fun h => absurd h (bY _)⟩, kb8 _⟩
  | x :: s, o, h, hv, hs, hl => by
    have hx := hv x (kb3 ..)
    have hl1 : ∀ l r, o = l :: r → l.1 ≤ x.1 := fun l r e => hl l r e x (kb3 ..)
    obtain ⟨h1, h2⟩ := List.pairwise_cons.1 hs
    obtain ⟨i1, i2, i3⟩ := k7i s (jT o x) (v1s h hx hl1) (fun p hp => hv p (kb9 _ hp)) h2 (fun l r e p hp => by have := u21 hl1 l r e; have := h1 p hp; omega)
    refine ⟨i1, fun z => ?_, ?_⟩
    · show bZ (s.foldl jT (jT o x)) z ↔ _
      rw [i2 z, v1t h hx hl1 z, qP, or_assoc]
    · show (s.foldl jT (jT o x)).length ≤ _
      have := u7q o x
      simp only [kb0]; omega
def jnP (s : List Sp) : List Sp := (jnR s).reverse
theorem k7h {s : List Sp} (hv : ∀ p ∈ s, dD p) (hs : srP s) : bW (jnP s) ∧ (∀ z, bZ (jnP s) z ↔ bZ s z) ∧ (jnP s).length ≤ s.length := by
  obtain ⟨h1, h2, h3⟩ := k7i s [] trivial hv hs (fun l r e => by cases e)
  refine ⟨?_, fun z => ?_, ?_⟩
  · have := k20 (r := []) h1 trivial (fun _ _ q hq => by cases hq)
    rw [ke2] at this; exact this
  · have e : bZ (jnP s) z ↔ bZ (jnR s) z := by
      unfold bZ jnP
      simp only [List.mem_reverse]
    rw [e]
    have := h2 z
    rw [show s.foldl jT [] = jnR s from rfl] at this
    rw [this]
    exact ⟨fun h => h.elim (fun h => absurd h (bY _)) id, .inr⟩
  · unfold jnP jnR; rw [kc0]
    have : (s.foldl jT []).length ≤ ([] : List Sp).length + s.length := h3
    rw [kb2, Nat.zero_add] at this; exact this
theorem wW {a b : List Sp} (h : a.Perm b) (z : Int) : bZ a z ↔ bZ b z := by
  unfold bZ
  constructor
  · rintro ⟨p, hp, h9⟩; exact ⟨p, h.mem_iff.1 hp, h9⟩
  · rintro ⟨p, hp, h9⟩; exact ⟨p, h.mem_iff.2 hp, h9⟩
theorem u2b {a b : List Sp} (h : a.Perm b) (hv : ∀ p ∈ a, dD p) (ha : srP a) (hb : srP b) : jnP a = jnP b := by
  have h1 := k7h hv ha
  have h2 := k7h (s := b) (fun p hp => hv p (h.mem_iff.2 hp)) hb
  exact k6p h1.1 h2.1 fun z => (h1.2.1 z).trans ((wW h z).trans (h2.2.1 z).symm)
/-! intersections -/
def lY (p q : Sp) : List Sp := if max p.1 q.1 ≤ min p.2 q.2 then [(max p.1 q.1, min p.2 q.2)] else []
def tZ (p : Sp) (b : List Sp) : List Sp := b.flatMap (lY p)
def aP (a b : List Sp) : List Sp := a.flatMap fun p => tZ p b
theorem xC {p q : Sp} (h : p.2 < q.1 ∨ q.2 < p.1) : lY p q = [] := by unfold lY; rw [if_neg (by omega)]
theorem xA {p : Sp} : ∀ {b : List Sp}, (∀ q ∈ b, p.2 < q.1 ∨ q.2 < p.1) → tZ p b = []
  | [], _ => rfl
  | q :: b, h => by
    show lY p q ++ tZ p b = []
    rw [xC (h q (kb3 ..)), xA fun r hr => h r (kb9 _ hr)]; rfl
theorem jV : ∀ a : List Sp, aP a [] = []
  | [] => rfl
  | p :: a => by show tZ p [] ++ aP a [] = []; rw [jV a]; rfl
theorem k2e {x y : Sp} {a b : List Sp} (hb : bW (y :: b)) (h : x.2 < y.2) : aP (x :: a) (y :: b) = lY x y ++ aP a (y :: b) := by
  show (lY x y ++ tZ x b) ++ _ = _
  rw [xA fun q hq => .inl (by have := hb.2.1 q hq; omega), ke2]; rfl
theorem xB {y : Sp} {b : List Sp} : ∀ {a : List Sp}, (∀ p ∈ a, y.2 < p.1) → aP a (y :: b) = aP a b
  | [], _ => rfl
  | p :: a, h => by
    show (lY p y ++ tZ p b) ++ aP a (y :: b) = tZ p b ++ aP a b
    rw [xC (.inr (h p (kb3 ..))), xB fun q hq => h q (kb9 _ hq)]; rfl
theorem w8 {x y : Sp} {a b : List Sp} (ha : bW (x :: a)) (h : ¬ x.2 < y.2) : aP (x :: a) (y :: b) = lY x y ++ aP (x :: a) b := by
  show (lY x y ++ tZ x b) ++ aP a (y :: b) = lY x y ++ (tZ x b ++ aP a b)
  rw [xB fun p hp => by have := ha.2.1 p hp; omega, kc9]
theorem u2c (p q : Sp) : (lY p q).length ≤ 1 := by unfold lY; split <;> simp
theorem k0i : ∀ (n : Nat) (a b : List Sp), a.length + b.length ≤ n → bW a → bW b → (aP a b).length ≤ a.length + b.length
  | _, [], b, _, _, _ => kd7 _
  | _, p :: a, [], _, _, _ => by rw [jV]; exact kd7 _
  | 0, p :: a, q :: b, h, _, _ => by simp at h
  | n + 1, x :: a, y :: b, h, ha, hb => by
    have h1 := u2c x y
    by_cases hxy : x.2 < y.2
    · rw [k2e hb hxy, ka8]
      have := k0i n a (y :: b) (by simp at h ⊢; omega) ha.2.2 hb
      simp only [kb0] at this ⊢; omega
    · rw [w8 ha hxy, ka8]
      have := k0i n (x :: a) b (by simp at h ⊢; omega) ha hb.2.2
      simp only [kb0] at this ⊢; omega
theorem fP {p q r : Sp} : r ∈ lY p q ↔ max p.1 q.1 ≤ min p.2 q.2 ∧ r = (max p.1 q.1, min p.2 q.2) := by
  unfold lY
  split
  · rename_i h; rw [List.mem_singleton]; exact ⟨fun e => ⟨h, e⟩, fun e => e.2⟩
  · rename_i h; exact ⟨fun e => (by cases e), fun e => absurd e.1 h⟩
theorem sE {a b : List Sp} {r : Sp} : r ∈ aP a b ↔ ∃ p ∈ a, ∃ q ∈ b, r ∈ lY p q := by
  unfold aP tZ
  simp only [List.mem_flatMap]
theorem nI (a b : List Sp) (x : Int) : bZ (aP a b) x ↔ bZ a x ∧ bZ b x := by
  constructor
  · rintro ⟨r, hr, h⟩
    obtain ⟨p, hp, q, hq, hr⟩ := sE.1 hr
    obtain ⟨h1, rfl⟩ := fP.1 hr
    simp only at h
    exact ⟨⟨p, hp, by omega, by omega⟩, ⟨q, hq, by omega, by omega⟩⟩
  · rintro ⟨⟨p, hp, h1⟩, ⟨q, hq, h2⟩⟩
    exact ⟨_, sE.2 ⟨p, hp, q, hq, fP.2 ⟨by omega, rfl⟩⟩, by simp only; omega, by simp only; omega⟩
theorem r6 : ∀ {a b : List Sp}, bW a → bW b → (∀ p ∈ a, ∀ q ∈ b, p.2 + 1 < q.1) → bW (a ++ b)
  | [], b, _, hb, _ => hb
  | p :: a, b, ha, hb, h => ⟨ha.1, fun q hq => (List.mem_append.1 hq).elim (ha.2.1 q) (h p (kb3 ..) q), r6 ha.2.2 hb fun r hr q hq => h r (kb9 _ hr) q hq⟩
theorem u7z {p q : Sp} (hp : dD p) (hq : dD q) : bW (lY p q) := by
  unfold lY
  unfold dD at hp hq
  split
  · exact ⟨⟨by show 0 ≤ max p.1 q.1; omega, by assumption, by show min p.2 q.2 ≤ _; omega⟩, fun _ h => (by cases h), trivial⟩
  · trivial
theorem k7m {p : Sp} (hp : dD p) : ∀ {b : List Sp}, bW b → bW (tZ p b)
  | [], _ => trivial
  | q :: b, h => by
    refine r6 (u7z hp h.1) (k7m hp h.2.2) fun r hr s hs => ?_
    obtain ⟨_, rfl⟩ := fP.1 hr
    obtain ⟨t, ht, hs⟩ := List.mem_flatMap.1 hs
    obtain ⟨_, rfl⟩ := fP.1 hs
    have := h.2.1 t ht
    simp only; omega
theorem k2d : ∀ {a b : List Sp}, bW a → bW b → bW (aP a b)
  | [], _, _, _ => trivial
  | p :: a, b, ha, hb => by
    refine r6 (k7m ha.1 hb) (k2d ha.2.2 hb) fun r hr s hs => ?_
    obtain ⟨q, hq, hr⟩ := List.mem_flatMap.1 hr
    obtain ⟨_, rfl⟩ := fP.1 hr
    obtain ⟨t, ht, u, hu, hs⟩ := sE.1 hs
    obtain ⟨_, rfl⟩ := fP.1 hs
    have := ha.2.1 t ht
    simp only; omega
/-! inside -/
def ctE (p q : Sp) : Bool := decide (q.1 ≤ p.1 ∧ p.2 ≤ q.2)
def inP (a b : List Sp) : Bool := a.all fun p => b.any (ctE p)
theorem k6c : ∀ {b : List Sp} {p : Sp}, bW b → p.1 ≤ p.2 → (∀ x, p.1 ≤ x → x ≤ p.2 → bZ b x) → ∃ q ∈ b, q.1 ≤ p.1 ∧ p.2 ≤ q.2
  | [], p, _, hp, h => absurd (h p.1 (kd1 _) hp) (bY _)
  | q :: b, p, hb, hp, h => by
    have hq := hb.1
    unfold dD at hq
    rcases qP.1 (h p.1 (kd1 _) hp) with h1 | h1
    · refine ⟨q, kb3 .., h1.1, ?_⟩
      apply Int.not_lt.1
      intro hlt
      rcases qP.1 (h (q.2 + 1) (by omega) (by omega)) with h2 | h2
      · omega
      · have := fA hb.2.1 h2; omega
    · have h3 := fA hb.2.1 h1
      obtain ⟨r, hr, h4⟩ := k6c (p := p) hb.2.2 hp fun x hx hx2 => by
        rcases qP.1 (h x hx hx2) with h2 | h2
        · omega
        · exact h2
      exact ⟨r, kb9 _ hr, h4⟩
theorem u83 {a b : List Sp} (ha : bW a) (hb : bW b) (h : ∀ x, bZ a x → bZ b x) : inP a b = true := by
  unfold inP
  rw [ke7]
  intro p hp
  have hv := cW ha p hp
  unfold dD at hv
  obtain ⟨q, hq, h1⟩ := k6c hb hv.2.1 fun x h1 h2 => h x ⟨p, hp, h1, h2⟩
  rw [kh1]
  exact ⟨q, hq, decide_eq_true h1⟩
/-! the nearest -/
def gV (n : Int) (p : Sp) : Int := max p.1 (min p.2 n)
def aL (a b : Int) : Int := if b < a then a - b else b - a
def nrP (n : Int) : List Sp → Option Int → Option Int
  | [], o => o
  | p :: r, o => nrP n r (match o with
    | none => some (gV n p)
    | some v => if aL (gV n p) n < aL v n then some (gV n p) else some v)
theorem s7 {p : Sp} (hp : p.1 ≤ p.2) (n x : Int) (hx : p.1 ≤ x ∧ x ≤ p.2) : aL (gV n p) n < aL x n ∨ gV n p = x ∨ (aL (gV n p) n = aL x n ∧ gV n p ≤ x) := by
  unfold aL gV
  split <;> split <;> omega
theorem r8 : ∀ (n : Int) (s : List Sp) (v : Int), ∃ w, nrP n s (some v) = some w
  | n, [], v => ⟨v, rfl⟩
  | n, p :: r, v => by
    show ∃ w, nrP n r (if aL (gV n p) n < aL v n then some (gV n p) else some v) = some w
    split
    · exact r8 n r _
    · exact r8 n r _
theorem r9 : ∀ (n : Int) (s : List Sp) (v w : Int), bW s → (∀ q ∈ s, v < q.1) → nrP n s (some v) = some w → (w = v ∨ bZ s w) ∧ (aL w n < aL v n ∨ (aL w n = aL v n ∧ w ≤ v)) ∧ ∀ x, bZ s x → aL w n < aL x n ∨ (aL w n = aL x n ∧ w ≤ x)
  | n, [], v, w, _, _, h => by
    have h : some v = some w := h
    cases h
    exact ⟨.inl rfl, .inr ⟨rfl, kd1 _⟩, fun x hx => absurd hx (bY _)⟩
  | n, p :: r, v, w, hs, hv, h => by
    have hp := hs.1
    unfold dD at hp
    have h : nrP n r (if aL (gV n p) n < aL v n then some (gV n p) else some v) = some w := h
    have hc : p.1 ≤ gV n p ∧ gV n p ≤ p.2 := by unfold gV; omega
    have hvp := hv p (kb3 ..)
    by_cases hd : aL (gV n p) n < aL v n
    · rw [if_pos hd] at h
      obtain ⟨h1, h2, h3⟩ := r9 n r (gV n p) w hs.2.2 (fun q hq => by have := hs.2.1 q hq; omega) h
      refine ⟨.inr (qP.2 (h1.imp (fun e => by rw [e]; exact hc) id)), by omega, fun x hx => ?_⟩
      rcases qP.1 hx with hx | hx
      · have := s7 hp.2.1 n x hx
        rcases this with h9 | h9 | h9
        · omega
        · rw [← h9]; omega
        · omega
      · exact h3 x hx
    · rw [if_neg hd] at h
      obtain ⟨h1, h2, h3⟩ := r9 n r v w hs.2.2 (fun q hq => hv q (kb9 _ hq)) h
      refine ⟨h1.imp id (fun e => qP.2 (.inr e)), h2, fun x hx => ?_⟩
      rcases qP.1 hx with hx | hx
      · have := s7 hp.2.1 n x hx
        have hw : w ≤ v ∨ aL w n < aL v n := by omega
        rcases this with h9 | h9 | h9
        · omega
        · rw [← h9]; omega
        · omega
      · exact h3 x hx
/-! spans told as one list of numbers -/
def qO : List Int → List Sp
  | a :: b :: r => (a, b) :: qO r
  | _ => []
def fl : List Sp → List Int
  | [] => []
  | p :: r => p.1 :: p.2 :: fl r
theorem gO : ∀ s : List Sp, qO (fl s) = s
  | [] => rfl
  | p :: r => by show (p.1, p.2) :: qO (fl r) = p :: r; rw [gO r]
theorem d3 : ∀ s : List Sp, (fl s).length = s.length * 2
  | [] => rfl
  | p :: r => by show (fl r).length + 1 + 1 = (r.length + 1) * 2; rw [d3 r]; omega
theorem gS : ∀ a b : List Sp, fl (a ++ b) = fl a ++ fl b
  | [], b => rfl
  | p :: a, b => by show p.1 :: p.2 :: fl (a ++ b) = p.1 :: p.2 :: (fl a ++ fl b); rw [gS a b]
theorem k82 : ∀ (n : Nat) (l : List Int), l.length = n * 2 → fl (qO l) = l
  | 0, [], _ => rfl
  | 0, _ :: _, h => by simp at h
  | n + 1, a :: b :: r, h => by
    show a :: b :: fl (qO r) = a :: b :: r
    rw [k82 n r (by simp at h; omega)]
  | n + 1, [_], h => by simp at h; omega
  | n + 1, [], h => by simp at h
theorem qZ {n : Nat} {l : List Int} (h : l.length = n * 2) : (qO l).length = n := by
  have h1 := d3 (qO l)
  rw [k82 n l h] at h1; omega
theorem iA {n : Nat} {a b : List Int} (h : a.length = n * 2) : qO (a ++ b) = qO a ++ qO b := by
  induction n generalizing a with
  | zero =>
    have : a = [] := kd6 (by omega)
    subst this; rfl
  | succ n ih =>
    match a, h with
    | x :: y :: r, h =>
      show (x, y) :: qO (r ++ b) = (x, y) :: (qO r ++ qO b)
      rw [ih (by simp at h; omega)]
    | [_], h => simp at h; omega
    | [], h => simp at h
theorem vU : ∀ (n : Nat) (l : List Int) (j : Nat), l.length = n * 2 → j < n → (qO l)[j]? = some (ka1 l (j * 2) 0, ka1 l (j * 2 + 1) 0)
  | n + 1, a :: b :: r, 0, _, _ => rfl
  | n + 1, a :: b :: r, j + 1, h, hj => by
    show (qO r)[j]? = _
    rw [vU n r j (by simp at h; omega) (by omega)]
    rw [show (j + 1) * 2 = j * 2 + 1 + 1 by omega]; rfl
  | n + 1, [_], _, h, _ => by simp at h; omega
  | n + 1, [], _, h, _ => by simp at h
theorem u7 {n : Nat} {l : List Int} (h : l.length = n * 2) {p : Sp} : p ∈ qO l ↔ ∃ j, j < n ∧ p = (ka1 l (j * 2) 0, ka1 l (j * 2 + 1) 0) := by
  constructor
  · intro hp
    obtain ⟨j, hj, e⟩ := List.mem_iff_getElem.1 hp
    rw [qZ h] at hj
    have := vU n l j h hj
    rw [ka7 (by rw [qZ h]; exact hj), e] at this
    exact ⟨j, hj, Option.some.inj this⟩
  · rintro ⟨j, hj, rfl⟩
    exact ke1 (vU n l j h hj)
theorem k65 {n : Nat} {l : List Int} (h : l.length = n * 2) {k : Nat} (hk : k ≤ n) : qO (ka5 (k * 2) l) = ka5 k (qO l) := by
  have h1 := iA (n := k) (a := ka5 (k * 2) l) (b := ka3 (k * 2) l) (by rw [kb4]; omega)
  rw [kg5] at h1
  have h2 := qZ (n := k) (l := ka5 (k * 2) l) (by rw [kb4]; omega)
  conv => rhs; rw [h1]
  exact (km5 h2).symm
theorem k66 {n : Nat} {l : List Int} (h : l.length = n * 2) {k : Nat} (hk : k ≤ n) : qO (ka3 (k * 2) l) = ka3 k (qO l) := by
  have h1 := iA (n := k) (a := ka5 (k * 2) l) (b := ka3 (k * 2) l) (by rw [kb4]; omega)
  rw [kg5] at h1
  have h2 := qZ (n := k) (l := ka5 (k * 2) l) (by rw [kb4]; omega)
  conv => rhs; rw [h1]
  exact (List.drop_left' h2).symm
theorem wF {n : Nat} {l : List Int} (h : l.length = n * 2) (a b : Int) : qO (l ++ [a, b]) = qO l ++ [(a, b)] := iA h
theorem cD {n : Nat} {l : List Int} (h : l.length = n * 2) {k : Nat} (hk : k < n) : ka3 k (qO l) = (ka1 l (k * 2) 0, ka1 l (k * 2 + 1) 0) :: ka3 (k + 1) (qO l) := by
  have hl := qZ h
  rw [List.drop_eq_getElem_cons (by omega)]
  have := vU n l k h hk
  rw [ka7 (by omega)] at this
  rw [Option.some.inj this]
theorem yN {n : Nat} {l : List Int} (h : l.length = n * 2) {k : Nat} (hk : k < n) : ka5 (k + 1) (qO l) = ka5 k (qO l) ++ [(ka1 l (k * 2) 0, ka1 l (k * 2 + 1) 0)] := by
  rw [List.take_add_one, vU n l k h hk]; rfl
/-! valid sets -/
def vaE (l : List Int) (j : Nat) : Bool := decide (0 ≤ ka1 l (j * 2) 0 ∧ ka1 l (j * 2) 0 ≤ ka1 l (j * 2 + 1) 0 ∧ ka1 l (j * 2 + 1) 0 ≤ 2147483647 ∧ (j = 0 ∨ ka1 l ((j - 1) * 2 + 1) 0 + 1 < ka1 l (j * 2) 0))
def eH (l : List Int) (n : Nat) : Bool := decide (n ≤ 64) && (List.range n).all (vaE l)
theorem k54 {l : List Int} {n : Nat} (h1 : n ≤ 64) (h : ∀ j, j < n → vaE l j = true) : eH l n = true :=
  Bool.and_eq_true_iff.2 ⟨decide_eq_true h1, List.all_eq_true.2 fun j hj => h j (List.mem_range.1 hj)⟩
theorem v00 {l : List Int} {n : Nat} (h1 : ¬ n ≤ 64) : eH l n = false := by unfold eH; rw [decide_eq_false h1]; rfl
theorem u47 {l : List Int} {n k : Nat} (hk : k < n) (h : vaE l k = false) : eH l n = false := by
  cases hb : eH l n with
  | false => rfl
  | true =>
    have := List.all_eq_true.1 (Bool.and_eq_true_iff.1 hb).2 k (List.mem_range.2 hk)
    rw [h] at this; cases this
theorem k6o : ∀ (s : List Sp), (∀ (j : Nat) (p : Sp), s[j]? = some p → dD p) → (∀ (j : Nat) (p q : Sp), s[j]? = some p → s[j + 1]? = some q → p.2 + 1 < q.1) → bW s
  | [], _, _ => trivial
  | p :: r, h1, h2 => by
    have ih := k6o r (fun j q hq => h1 (j + 1) q hq) (fun j a b ha hb => h2 (j + 1) a b ha hb)
    refine ⟨h1 0 p rfl, ?_, ih⟩
    have hp := h1 0 p rfl
    match r, ih, h2 with
    | [], _, _ => intro q hq; cases hq
    | a :: r, ih, h2 =>
      have h3 := h2 0 p a rfl rfl
      have ha := ih.1
      unfold dD at ha
      intro q hq
      rcases List.mem_cons.1 hq with rfl | hq
      · exact h3
      · have := ih.2.1 q hq; omega
theorem iF : ∀ (s : List Sp), bW s → ∀ (j : Nat) (p q : Sp), s[j]? = some p → s[j + 1]? = some q → p.2 + 1 < q.1
  | [], _, j, p, q, h, _ => by simp at h
  | a :: r, h, 0, p, q, hp, hq => by
    have hp : some a = some p := hp
    cases hp
    exact h.2.1 q (ke1 (show r[0]? = some q from hq))
  | a :: r, h, j + 1, p, q, hp, hq => iF r h.2.2 j p q hp hq
theorem aD {l : List Int} {n : Nat} (hl : l.length = n * 2) : eH l n = true ↔ n ≤ 64 ∧ bW (qO l) := by
  constructor
  · intro h
    have h1 := Bool.and_eq_true_iff.1 h
    have ha : ∀ j, j < n → vaE l j = true := fun j hj => List.all_eq_true.1 h1.2 j (List.mem_range.2 hj)
    refine ⟨of_decide_eq_true h1.1, k6o _ (fun j p hp => ?_) (fun j p q hp hq => ?_)⟩
    · have hj : j < n := by have := (List.getElem?_eq_some_iff.1 hp).1; rw [qZ hl] at this; exact this
      rw [vU n l j hl hj] at hp
      cases hp
      have := of_decide_eq_true (ha j hj)
      exact ⟨this.1, this.2.1, this.2.2.1⟩
    · have hj : j + 1 < n := by have := (List.getElem?_eq_some_iff.1 hq).1; rw [qZ hl] at this; exact this
      rw [vU n l j hl (by omega)] at hp
      rw [vU n l (j + 1) hl hj] at hq
      cases hp; cases hq
      have := (of_decide_eq_true (ha (j + 1) hj)).2.2.2
      rw [show j + 1 - 1 = j by omega] at this
      rcases this with h9 | h9
      · omega
      · exact h9
  · rintro ⟨h1, h2⟩
    refine k54 h1 fun j hj => decide_eq_true ?_
    have hv := cW h2 _ (ke1 (vU n l j hl hj))
    refine ⟨hv.1, hv.2.1, hv.2.2, ?_⟩
    rcases km2 j with h9 | h9
    · exact .inl h9
    · right
      have e := vU n l (j - 1) hl (by omega)
      have e2 := vU n l j hl hj
      rw [show j = j - 1 + 1 by omega] at e2
      have := iF _ h2 (j - 1) _ _ e e2
      rw [show j - 1 + 1 = j by omega] at this
      exact this
def kB (l : List Int) (n : Nat) : List Int := if eH l n = true then l else []
def kZ (l : List Int) (n : Nat) : Nat := if eH l n = true then n else 0
theorem n7 {l : List Int} {n : Nat} (h : eH l n = true) : kB l n = l ∧ kZ l n = n := ⟨if_pos h, if_pos h⟩
theorem v08 {l : List Int} {n : Nat} (h : eH l n = false) : kB l n = [] ∧ kZ l n = 0 := by unfold kB kZ; rw [h]; exact ⟨rfl, rfl⟩
theorem qR {l : List Int} {n : Nat} (hl : l.length = n * 2) : (kB l n).length = kZ l n * 2 := by
  unfold kB kZ; split
  · exact hl
  · rfl
theorem bC {l : List Int} {n : Nat} (hl : l.length = n * 2) : bW (qO (kB l n)) := by
  cases h : eH l n with
  | true => rw [(n7 h).1]; exact ((aD hl).1 h).2
  | false => rw [(v08 h).1]; trivial
theorem j8 {l : List Int} {n : Nat} : kZ l n ≤ 64 ∧ kZ l n ≤ n := by
  unfold kZ; split
  · rename_i h; exact ⟨of_decide_eq_true (Bool.and_eq_true_iff.1 h).1, kb8 _⟩
  · exact ⟨kd7 _, kd7 _⟩
/-! spans in order, and joined -/
theorem rS {n : Nat} {l : List Int} (h : l.length = n * 2) {j : Nat} (hj : j < n) : (qO l)[j]'(by rw [qZ h]; exact hj) = (ka1 l (j * 2) 0, ka1 l (j * 2 + 1) 0) := by
  have := vU n l j h hj
  rw [ka7 (by rw [qZ h]; exact hj)] at this
  exact Option.some.inj this
def RG (l : List Int) (n : Nat) : Prop := ∀ j, j < n → 0 ≤ ka1 l (j * 2) 0 ∧ ka1 l (j * 2) 0 ≤ ka1 l (j * 2 + 1) 0 ∧ ka1 l (j * 2 + 1) 0 ≤ 2147483647
theorem RG.v {l : List Int} {n : Nat} (hl : l.length = n * 2) (h : RG l n) : ∀ p ∈ qO l, dD p := fun p hp => by
  obtain ⟨j, hj, rfl⟩ := (u7 hl).1 hp
  exact h j hj
theorem u14 {l : List Int} {n : Nat} (hl : l.length = n * 2) (h : ∀ p ∈ qO l, dD p) : RG l n := fun j hj => h _ ((u7 hl).2 ⟨j, hj, rfl⟩)
def stP (s : List Sp) : List Sp := s.mergeSort fun a b => decide (a.1 ≤ b.1)
theorem eY (s : List Sp) : (stP s).Perm s := List.mergeSort_perm _ _
theorem k5c (s : List Sp) : srP (stP s) := by
  have h := List.pairwise_mergeSort (le := fun (x y : Sp) => decide (x.1 ≤ y.1)) (fun a b c h1 h2 => decide_eq_true (by have := of_decide_eq_true h1; have := of_decide_eq_true h2; omega)) (fun a b => by
    rw [Bool.or_eq_true]
    rcases Int.le_total a.1 b.1 with h | h
    · exact .inl (decide_eq_true h)
    · exact .inr (decide_eq_true h)) s
  exact h.imp fun h => of_decide_eq_true h
def mkP (s : List Sp) : List Sp := jnP (stP s)
theorem k6y {s : List Sp} (hv : ∀ p ∈ s, dD p) : bW (mkP s) ∧ (∀ z, bZ (mkP s) z ↔ bZ s z) ∧ (mkP s).length ≤ s.length := by
  obtain ⟨h1, h2, h3⟩ := k7h (s := stP s) (fun p hp => hv p ((eY s).mem_iff.1 hp)) (k5c s)
  exact ⟨h1, fun z => (h2 z).trans (wW (eY s) z), by rw [(eY s).length_eq] at h3; exact h3⟩
theorem k3v {s t : List Sp} (hv : ∀ p ∈ s, dD p) (h : t.Perm s) (ht : srP t) : jnP t = mkP s :=
  (u2b ((eY s).trans h.symm) (fun p hp => hv p ((eY s).mem_iff.1 hp)) (k5c s) ht).symm
structure SI (l : List Int) (i : Nat) (o : List Int) : Prop where
  len : o.length = i * 2
  perm : (qO o).Perm (ka5 i (qO l))
  sr : srP (qO o)
theorem SI.zero (l : List Int) : SI l 0 [] := ⟨rfl, List.Perm.refl _, List.Pairwise.nil⟩
theorem SI.rg {l o : List Int} {n i : Nat} (h : SI l i o) (hl : l.length = n * 2) (hi : i ≤ n) (hr : RG l n) : RG o i :=
  u14 h.len fun p hp => hr.v hl p (kh0 (h.perm.mem_iff.1 hp))
theorem rX {s : List Sp} (h : srP s) {i j : Nat} {p q : Sp} (hij : i ≤ j) (hp : s[i]? = some p) (hq : s[j]? = some q) : p.1 ≤ q.1 := by
  obtain ⟨h1, rfl⟩ := List.getElem?_eq_some_iff.1 hp
  obtain ⟨h2, rfl⟩ := List.getElem?_eq_some_iff.1 hq
  rcases ki9 i j with h9 | h9
  · exact List.pairwise_iff_getElem.1 h i j h1 h2 h9
  · have e : i = j := by omega
    subst e; exact kd1 _
theorem SI.step {l o q : List Int} {n i k : Nat} {a b : Int} (h : SI l i o) (hl : l.length = n * 2) (hi : i < n) (ha : a = ka1 l (i * 2) 0) (hb : b = ka1 l (i * 2 + 1) 0) (hk : k ≤ i) (h1 : ∀ j, k ≤ j → j < i → a < ka1 o (j * 2) 0) (h2 : k = 0 ∨ ka1 o ((k - 1) * 2) 0 ≤ a) (hq : q = ka5 (k * 2) o ++ [a, b] ++ ka3 (k * 2) o) : SI l (i + 1) q := by
  have e : qO q = ka5 k (qO o) ++ [(a, b)] ++ ka3 k (qO o) := by
    rw [hq, iA (n := k + 1) (by rw [ka8, kb4, h.len]; simp only [kb0, kb2]; omega), wF (n := k) (by rw [kb4, h.len]; omega), k65 h.len hk, k66 h.len hk]
  refine ⟨?_, ?_, ?_⟩
  · rw [hq]; simp only [ka8, kb4, kb6, kb0, kb2, h.len]; omega
  · rw [e, yN hl hi, ← ha, ← hb, kc9]
    refine (List.Perm.append_left _ List.perm_append_comm).trans ?_
    rw [← kc9, kg5]
    exact h.perm.append_right _
  · have hg : ∀ j, j < i → (qO o)[j]? = some (ka1 o (j * 2) 0, ka1 o (j * 2 + 1) 0) := fun j hj => vU i o j h.len hj
    rw [e, srP, kc9, List.pairwise_append]
    refine ⟨h.sr.sublist (List.take_sublist _ _), List.Pairwise.cons (fun x hx => ?_) (h.sr.sublist (List.drop_sublist _ _)), fun x hx y hy => ?_⟩
    · obtain ⟨j, hj, e2⟩ := List.mem_iff_getElem?.1 hx |>.elim fun j hj => (⟨j, (List.getElem?_eq_some_iff.1 hj).1, hj⟩ : ∃ j, j < (ka3 k (qO o)).length ∧ (ka3 k (qO o))[j]? = some x)
      rw [kb6, qZ h.len] at hj
      rw [ke3, hg _ (by omega)] at e2
      cases e2
      have := h1 (k + j) (by omega) (by omega)
      show a ≤ _; omega
    · obtain ⟨j, hj⟩ := List.mem_iff_getElem?.1 hx
      have hj2 := (List.getElem?_eq_some_iff.1 hj).1
      rw [kb4, qZ h.len] at hj2
      rw [List.getElem?_take, if_pos (by omega)] at hj
      have hxa : x.1 ≤ a := by
        rcases h2 with h2 | h2
        · omega
        · have := rX h.sr (show j ≤ k - 1 by omega) hj (hg (k - 1) (by omega))
          exact Int.le_trans this h2
      rcases List.mem_cons.1 (show y ∈ (a, b) :: ka3 k (qO o) from hy) with rfl | hy
      · exact hxa
      · obtain ⟨m, hm⟩ := List.mem_iff_getElem?.1 hy
        have hm2 := (List.getElem?_eq_some_iff.1 hm).1
        rw [kb6, qZ h.len] at hm2
        rw [ke3, hg _ (by omega)] at hm
        cases hm
        have := h1 (k + m) (by omega) (by omega)
        show x.1 ≤ _; omega
theorem SI.all {l o : List Int} {n i : Nat} (h : SI l i o) (hl : l.length = n * 2) (hi : n ≤ i) : (qO o).Perm (qO l) := by
  have := h.perm
  rw [kb7 (by rw [qZ hl]; exact hi)] at this
  exact this
def MG (o : List Int) (i : Nat) (k : Nat) (out : List Int) : Prop := out = fl ((ka5 i (qO o)).foldl jT []).reverse ∧ ((ka5 i (qO o)).foldl jT []).length = k
theorem MG.zero (o : List Int) : MG o 0 0 [] := ⟨rfl, rfl⟩
theorem MG.len {o out : List Int} {i k : Nat} (h : MG o i k out) : out.length = k * 2 := by rw [h.1, d3, kc0, h.2]
theorem u8c (r : List Sp) (l : Sp) (v : Int) : List.set (fl (r ++ [l])) (r.length * 2 + 1) v = fl (r ++ [(l.1, v)]) := by
  rw [gS, gS, ← d3 r, List.set_append_right _ _ (by omega), show (fl r).length + 1 - (fl r).length = 1 by omega]; rfl
theorem u2n (r : List Sp) (l : Sp) : ka1 (fl (r ++ [l])) (r.length * 2 + 1) 0 = l.2 := by
  rw [gS, List.getD_eq_getElem?_getD, ← d3 r, List.getElem?_append_right (by omega), show (fl r).length + 1 - (fl r).length = 1 by omega]; rfl
theorem MG.last {o out : List Int} {i k : Nat} (h : MG o i k out) (hk : 1 ≤ k) : ∃ l r, (ka5 i (qO o)).foldl jT [] = l :: r ∧ out = fl (r.reverse ++ [l]) ∧ r.length = k - 1 ∧ ka1 out ((k - 1) * 2 + 1) 0 = l.2 := by
  obtain ⟨h1, h2⟩ := h
  cases e : (ka5 i (qO o)).foldl jT [] with
  | nil => rw [e] at h2; simp at h2; omega
  | cons l r =>
    rw [e] at h1 h2
    rw [kf9] at h1
    have h3 : r.length = k - 1 := by simp at h2; omega
    refine ⟨l, r, rfl, h1, h3, ?_⟩
    rw [h1, ← h3, ← (kc0 : r.reverse.length = r.length)]; exact u2n _ _
theorem MG.next {o : List Int} {n i : Nat} (hl : o.length = n * 2) (hi : i < n) : (ka5 (i + 1) (qO o)).foldl jT [] = jT ((ka5 i (qO o)).foldl jT []) (ka1 o (i * 2) 0, ka1 o (i * 2 + 1) 0) := by
  rw [yN hl hi, List.foldl_append]; rfl
theorem MG.new {o out q : List Int} {n i k : Nat} {a b : Int} (h : MG o i k out) (hl : o.length = n * 2) (hi : i < n) (ha : a = ka1 o (i * 2) 0) (hb : b = ka1 o (i * 2 + 1) 0) (h2 : k = 0 ∨ ka1 out ((k - 1) * 2 + 1) 0 + 1 < a) (hq : q = out ++ [a, b]) : MG o (i + 1) (k + 1) q := by
  unfold MG
  rw [MG.next hl hi, ← ha, ← hb, hq]
  rcases km2 k with h0 | h0
  · have h3 := h.2
    rw [h0] at h3
    have e := kd6 h3
    rw [h.1, e]; subst h0; exact ⟨rfl, rfl⟩
  · obtain ⟨l, r, e, e1, e2, e3⟩ := h.last h0
    rw [e]
    have h4 : l.2 + 1 < a := by
      rcases h2 with h2 | h2
      · omega
      · rw [e3] at h2; exact h2
    have e5 : jT (l :: r) (a, b) = (a, b) :: l :: r := by
      show (if a ≤ l.2 + 1 then _ else _) = _
      rw [if_neg (by omega)]
    rw [e5, e1]
    refine ⟨?_, by simp only [kb0]; omega⟩
    rw [kf9, kf9, gS (r.reverse ++ [l])]; rfl
theorem MG.join {o out q : List Int} {n i k : Nat} {a b v : Int} (h : MG o i k out) (hl : o.length = n * 2) (hi : i < n) (ha : a = ka1 o (i * 2) 0) (hb : b = ka1 o (i * 2 + 1) 0) (hk : 1 ≤ k) (h2 : a ≤ ka1 out ((k - 1) * 2 + 1) 0 + 1) (hv : v = max (ka1 out ((k - 1) * 2 + 1) 0) b) (hq : q = List.set out ((k - 1) * 2 + 1) v) : MG o (i + 1) k q := by
  unfold MG
  rw [MG.next hl hi, ← ha, ← hb, hq]
  obtain ⟨l, r, e, e1, e2, e3⟩ := h.last hk
  rw [e]
  rw [e3] at h2 hv
  have e5 : jT (l :: r) (a, b) = (l.1, max l.2 b) :: r := by
    show (if a ≤ l.2 + 1 then _ else _) = _
    rw [if_pos h2]
  rw [e5, e1, ← e2]
  refine ⟨?_, by simp only [kb0]; omega⟩
  rw [← (kc0 : r.reverse.length = r.length), u8c, kf9, hv]
theorem MG.fin {o out : List Int} {n i k : Nat} (h : MG o i k out) (hl : o.length = n * 2) (hi : n ≤ i) : out = fl (jnP (qO o)) ∧ (jnP (qO o)).length = k := by
  unfold MG at h
  rw [kb7 (by rw [qZ hl]; exact hi)] at h
  refine ⟨h.1, ?_⟩
  unfold jnP jnR; rw [kc0]; exact h.2
theorem v1r : ∀ (s o : List Sp), (∀ p ∈ o, dD p) → (∀ p ∈ s, dD p) → ∀ p ∈ s.foldl jT o, 0 ≤ p.1 ∧ 0 ≤ p.2 ∧ p.2 ≤ 2147483647
  | [], o, h, _, p, hp => by have := h p hp; unfold dD at this; omega
  | x :: s, o, h, hs, p, hp => by
    refine v1r s (jT o x) (fun q hq => ?_) (fun q hq => hs q (kb9 _ hq)) p hp
    have hx := hs x (kb3 ..)
    cases o with
    | nil => rw [List.mem_singleton.1 (show q ∈ [x] from hq)]; exact hx
    | cons l r =>
      have hl := h l (kb3 ..)
      have hq : q ∈ (if x.1 ≤ l.2 + 1 then (l.1, max l.2 x.2) :: r else x :: l :: r) := hq
      unfold dD at hx hl
      split at hq
      · rcases List.mem_cons.1 hq with rfl | hq
        · exact ⟨hl.1, by show l.1 ≤ max l.2 x.2; omega, by show max l.2 x.2 ≤ _; omega⟩
        · exact h q (kb9 _ hq)
      · rcases List.mem_cons.1 hq with rfl | hq
        · exact hx
        · exact h q hq
theorem MG.hi {o out : List Int} {n i k : Nat} (h : MG o i k out) (hl : o.length = n * 2) (hr : RG o n) (hk : 1 ≤ k) : 0 ≤ ka1 out ((k - 1) * 2 + 1) 0 ∧ ka1 out ((k - 1) * 2 + 1) 0 ≤ 2147483647 := by
  obtain ⟨l, r, e, _, _, e3⟩ := h.last hk
  rw [e3]
  have := v1r (ka5 i (qO o)) [] (fun _ h => (by cases h)) (fun p hp => hr.v hl p (kh0 hp)) l (by rw [e]; exact kb3 ..)
  exact ⟨this.2.1, this.2.2⟩
/-! the functions on lists -/
def rgE (l : List Int) (j : Nat) : Bool := decide (0 ≤ ka1 l (j * 2) 0 ∧ ka1 l (j * 2) 0 ≤ ka1 l (j * 2 + 1) 0 ∧ ka1 l (j * 2 + 1) 0 ≤ 2147483647)
def rgB (l : List Int) (n : Nat) : Bool := (List.range n).all (rgE l)
theorem v0m {l : List Int} {n : Nat} (h : ∀ j, j < n → rgE l j = true) : rgB l n = true := List.all_eq_true.2 fun j hj => h j (List.mem_range.1 hj)
theorem u77 {l : List Int} {n k : Nat} (hk : k < n) (h : rgE l k = false) : rgB l n = false := by
  cases hb : rgB l n with
  | false => rfl
  | true => have := List.all_eq_true.1 hb k (List.mem_range.2 hk); rw [h] at this; cases this
theorem jO {l : List Int} {n : Nat} : rgB l n = true ↔ RG l n := ⟨fun h j hj => of_decide_eq_true (List.all_eq_true.1 h j (List.mem_range.2 hj)), fun h => v0m fun j hj => decide_eq_true (h j hj)⟩
def tY (l : List Int) : List Int := fl (mkP (qO l))
def lX (l : List Int) : Nat := (mkP (qO l)).length
theorem k0h (l : List Int) : (tY l).length = lX l * 2 := d3 _
theorem k7j {l : List Int} {n : Nat} (hl : l.length = n * 2) (hr : RG l n) : lX l ≤ n := by
  have := (k6y (hr.v hl)).2.2
  rw [qZ hl] at this; exact this
theorem u7x {l o out : List Int} {n k : Nat} (hl : l.length = n * 2) (hr : RG l n) (ho : o.length = n * 2) (hp : (qO o).Perm (qO l)) (hs : srP (qO o)) (h : MG o n k out) : out = tY l ∧ lX l = k := by
  obtain ⟨h1, h2⟩ := h.fin ho (kb8 _)
  rw [k3v (hr.v hl) hp hs] at h1 h2
  exact ⟨h1, h2⟩
def oF (l : List Int) (n : Nat) : Int := if rgB l n = true then (if lX l ≤ 64 then 0 else 3) else 2
def d9 (l : List Int) (n : Nat) : List Int := if rgB l n = true ∧ lX l ≤ 64 then tY l else []
def vI (l : List Int) (n : Nat) : Nat := if rgB l n = true ∧ lX l ≤ 64 then lX l else 0
theorem sC {l : List Int} {n : Nat} (h : rgB l n = false) : oF l n = 2 ∧ d9 l n = [] ∧ vI l n = 0 := by
  unfold oF d9 vI; rw [h]
  exact ⟨if_neg ki0, if_neg fun h => absurd h.1 ki0, if_neg fun h => absurd h.1 ki0⟩
theorem k6z {l : List Int} {n : Nat} (h : rgB l n = true) (h2 : 64 < lX l) : oF l n = 3 ∧ d9 l n = [] ∧ vI l n = 0 := by
  unfold oF d9 vI
  rw [if_pos h]
  exact ⟨if_neg (by omega), if_neg fun h => by omega, if_neg fun h => by omega⟩
theorem sB {l : List Int} {n : Nat} (h : rgB l n = true) (h2 : lX l ≤ 64) : oF l n = 0 ∧ d9 l n = tY l ∧ vI l n = lX l := by
  unfold oF d9 vI
  rw [if_pos h]
  exact ⟨if_pos h2, if_pos ⟨h, h2⟩, if_pos ⟨h, h2⟩⟩
theorem iJ (l : List Int) (n : Nat) : (d9 l n).length = vI l n * 2 := by
  unfold d9 vI; split
  · exact k0h l
  · rfl
theorem nF (l : List Int) (n : Nat) : (0 ≤ oF l n ∧ oF l n ≤ 3) ∧ vI l n ≤ 64 := by
  constructor
  · unfold oF; (repeat' split) <;> omega
  · unfold vI; split <;> omega
theorem k71 {l : List Int} {n : Nat} (hl : l.length = n * 2) : bW (qO (d9 l n)) := by
  unfold d9; split
  · rename_i h; unfold tY; rw [gO]; exact (k6y ((jO.1 h.1).v hl)).1
  · trivial
theorem u7p {l : List Int} {n : Nat} (hl : l.length = n * 2) : eH (d9 l n) (vI l n) = true := (aD (iJ l n)).2 ⟨(nF l n).2, k71 hl⟩
/-! members -/
def bA (l : List Int) (x : Int) : Bool := (qO l).any fun p => decide (p.1 ≤ x ∧ x ≤ p.2)
theorem yZ {l : List Int} {x : Int} : bA l x = true ↔ bZ (qO l) x := by
  unfold bA bZ
  rw [kh1]
  constructor
  · rintro ⟨p, hp, h⟩; exact ⟨p, hp, of_decide_eq_true h⟩
  · rintro ⟨p, hp, h⟩; exact ⟨p, hp, decide_eq_true h⟩
theorem u2j {l : List Int} {n k : Nat} {x : Int} (hl : l.length = n * 2) (hk : k < n) (h : ka1 l (k * 2) 0 ≤ x ∧ x ≤ ka1 l (k * 2 + 1) 0) : bA l x = true := yZ.2 ⟨_, (u7 hl).2 ⟨k, hk, rfl⟩, h⟩
theorem v5r {l : List Int} {n : Nat} {x : Int} (hl : l.length = n * 2) (h : ∀ j, j < n → ¬ (ka1 l (j * 2) 0 ≤ x ∧ x ≤ ka1 l (j * 2 + 1) 0)) : bA l x = false := by
  cases hb : bA l x with
  | false => rfl
  | true =>
    obtain ⟨p, hp, h1⟩ := yZ.1 hb
    obtain ⟨j, hj, rfl⟩ := (u7 hl).1 hp
    exact absurd h1 (h j hj)
/-! inside -/
def zP (b : List Int) (p q : Int) : Bool := (qO b).any (ctE (p, q))
theorem v60 {b : List Int} {m k : Nat} {p q : Int} (hl : b.length = m * 2) (hk : k < m) (h : ka1 b (k * 2) 0 ≤ p ∧ q ≤ ka1 b (k * 2 + 1) 0) : zP b p q = true := by
  unfold zP
  rw [kh1]
  exact ⟨_, (u7 hl).2 ⟨k, hk, rfl⟩, decide_eq_true h⟩
theorem v61 {b : List Int} {m : Nat} {p q : Int} (hl : b.length = m * 2) (h : ∀ j, j < m → ¬ (ka1 b (j * 2) 0 ≤ p ∧ q ≤ ka1 b (j * 2 + 1) 0)) : zP b p q = false := by
  cases hb : zP b p q with
  | false => rfl
  | true =>
    unfold zP at hb
    rw [kh1] at hb
    obtain ⟨r, hr, h1⟩ := hb
    obtain ⟨j, hj, rfl⟩ := (u7 hl).1 hr
    exact absurd (of_decide_eq_true h1) (h j hj)
def xF (a b : List Int) : Bool := inP (qO a) (qO b)
theorem v5p {a b : List Int} {n : Nat} (hl : a.length = n * 2) (h : ∀ j, j < n → zP b (ka1 a (j * 2) 0) (ka1 a (j * 2 + 1) 0) = true) : xF a b = true := by
  unfold xF inP
  rw [ke7]
  intro p hp
  obtain ⟨j, hj, rfl⟩ := (u7 hl).1 hp
  exact h j hj
theorem v5q {a b : List Int} {n k : Nat} (hl : a.length = n * 2) (hk : k < n) (h : zP b (ka1 a (k * 2) 0) (ka1 a (k * 2 + 1) 0) = false) : xF a b = false := by
  cases hb : xF a b with
  | false => rfl
  | true =>
    unfold xF inP at hb
    rw [ke7] at hb
    have := hb _ ((u7 hl).2 ⟨k, hk, rfl⟩)
    exact absurd (h.symm.trans this) (by decide)
/-! the nearest -/
def NR (n : Int) (l : List Int) (i : Nat) (b : Int) (f : Bool) : Prop := nrP n (ka5 i (qO l)) none = (if f = true then some b else none) ∧ (f = false → b = 0)
theorem lU (n : Int) (p : Sp) : ∀ (s : List Sp) (o : Option Int), nrP n (s ++ [p]) o = match nrP n s o with
    | none => some (gV n p)
    | some v => if aL (gV n p) n < aL v n then some (gV n p) else some v
  | [], o => rfl
  | q :: s, o => lU n p s _
theorem NR.zero (n : Int) (l : List Int) : NR n l 0 0 false := ⟨rfl, fun _ => rfl⟩
theorem NR.first {n : Int} {l : List Int} {i m : Nat} {b v : Int} (h : NR n l i b false) (hl : l.length = m * 2) (hi : i < m) (hv : v = gV n (ka1 l (i * 2) 0, ka1 l (i * 2 + 1) 0)) : NR n l (i + 1) v true := by
  refine ⟨?_, fun h => by cases h⟩
  rw [yN hl hi, lU, h.1, hv]; rfl
theorem NR.near {n : Int} {l : List Int} {i m : Nat} {b v : Int} (h : NR n l i b true) (hl : l.length = m * 2) (hi : i < m) (hv : v = gV n (ka1 l (i * 2) 0, ka1 l (i * 2 + 1) 0)) (hd : aL v n < aL b n) : NR n l (i + 1) v true := by
  refine ⟨?_, fun h => by cases h⟩
  rw [yN hl hi, lU, h.1, ← hv]
  show (if aL v n < aL b n then some v else some b) = some v
  rw [if_pos hd]
theorem NR.far {n : Int} {l : List Int} {i m : Nat} {b v : Int} (h : NR n l i b true) (hl : l.length = m * 2) (hi : i < m) (hd : ¬ aL v n < aL b n) (hv : v = gV n (ka1 l (i * 2) 0, ka1 l (i * 2 + 1) 0)) : NR n l (i + 1) b true := by
  refine ⟨?_, fun h => by cases h⟩
  rw [yN hl hi, lU, h.1, ← hv]
  show (if aL v n < aL b n then some v else some b) = some b
  rw [if_neg hd]
def vA (n : Int) (l : List Int) : Int := (nrP n (qO l) none).getD 0
def nrF (n : Int) (l : List Int) : Bool := (nrP n (qO l) none).isSome
theorem NR.fin {n : Int} {l : List Int} {i m : Nat} {b : Int} {f : Bool} (h : NR n l i b f) (hl : l.length = m * 2) (hi : m ≤ i) : vA n l = b ∧ nrF n l = f := by
  have h1 := h.1
  rw [kb7 (by rw [qZ hl]; exact hi)] at h1
  unfold vA nrF
  rw [h1]
  cases f with
  | true => exact ⟨rfl, rfl⟩
  | false => exact ⟨(h.2 rfl).symm, rfl⟩
/-! intersections -/
def uF (a b : List Int) : List Int := fl (ka5 64 (aP (qO a) (qO b)))
def qK (a b : List Int) : Nat := (ka5 64 (aP (qO a) (qO b))).length
theorem uR (a b : List Int) : (uF a b).length = qK a b * 2 := d3 _
theorem v9 (a b : List Int) : qK a b ≤ 64 := by unfold qK; rw [kb4]; omega
structure IX (a b : List Int) (i j k : Nat) (out : List Int) : Prop where
  ex : ∃ q, out = fl q ∧ q.length = k ∧ q ++ aP (ka3 i (qO a)) (ka3 j (qO b)) = aP (qO a) (qO b)
theorem IX.zero (a b : List Int) : IX a b 0 0 0 [] := ⟨[], rfl, rfl, rfl⟩
theorem IX.len {a b out : List Int} {i j k : Nat} (h : IX a b i j k out) : out.length = k * 2 := by
  obtain ⟨q, rfl, rfl, _⟩ := h; exact d3 q
theorem nD : ∀ (k : Nat) {s : List Sp}, bW s → bW (ka3 k s)
  | 0, _, h => h
  | k + 1, [], _ => trivial
  | k + 1, p :: s, h => nD k h.2.2
theorem IX.put {a b out o : List Int} {n m i j k : Nat} {u v : Int} (h : IX a b i j k out) (ha : a.length = n * 2) (hb : b.length = m * 2) (oa : bW (qO a)) (ob : bW (qO b)) (hi : i < n) (hj : j < m) (hu : u = max (ka1 a (i * 2) 0) (ka1 b (j * 2) 0)) (hv : v = min (ka1 a (i * 2 + 1) 0) (ka1 b (j * 2 + 1) 0)) (ho : (u ≤ v ∧ o = out ++ [u, v]) ∨ (¬ u ≤ v ∧ o = out)) :
    (ka1 a (i * 2 + 1) 0 < ka1 b (j * 2 + 1) 0 → IX a b (i + 1) j (if u ≤ v then k + 1 else k) o) ∧ (¬ ka1 a (i * 2 + 1) 0 < ka1 b (j * 2 + 1) 0 → IX a b i (j + 1) (if u ≤ v then k + 1 else k) o) := by
  obtain ⟨q, e1, e2, e3⟩ := h
  rw [cD ha hi, cD hb hj] at e3
  have oa2 := nD i oa
  have ob2 := nD j ob
  rw [cD ha hi] at oa2
  rw [cD hb hj] at ob2
  have hE : lY (ka1 a (i * 2) 0, ka1 a (i * 2 + 1) 0) (ka1 b (j * 2) 0, ka1 b (j * 2 + 1) 0) = if u ≤ v then [(u, v)] else [] := by unfold lY; rw [hu, hv]
  have hq : o = fl (q ++ (if u ≤ v then [(u, v)] else [])) ∧ (q ++ (if u ≤ v then [(u, v)] else [])).length = if u ≤ v then k + 1 else k := by
    rcases ho with ⟨h1, h2⟩ | ⟨h1, h2⟩
    · rw [if_pos h1, if_pos h1, h2, e1, gS, ka8, e2]; exact ⟨rfl, rfl⟩
    · rw [if_neg h1, if_neg h1, h2, e1, ke2]; exact ⟨rfl, e2⟩
  constructor
  · intro hlt
    rw [k2e ob2 hlt, hE, ← cD hb hj, ← kc9] at e3
    exact ⟨_, hq.1, hq.2, e3⟩
  · intro hlt
    rw [w8 oa2 hlt, hE, ← cD ha hi, ← kc9] at e3
    exact ⟨_, hq.1, hq.2, e3⟩
theorem IX.fin {a b out : List Int} {n m i j k : Nat} (h : IX a b i j k out) (ha : a.length = n * 2) (hb : b.length = m * 2) (hk : k ≤ 64) (hf : n ≤ i ∨ m ≤ j ∨ k = 64) : out = uF a b ∧ qK a b = k := by
  obtain ⟨q, e1, e2, e3⟩ := h
  have e4 : ka5 64 (aP (qO a) (qO b)) = q := by
    rw [← e3]
    rcases ki9 k 64 with h9 | h9
    · have e5 : aP (ka3 i (qO a)) (ka3 j (qO b)) = [] := by
        rcases hf with hf | hf | hf
        · rw [kk5 (by rw [qZ ha]; exact hf)]; rfl
        · rw [show ka3 j (qO b) = [] from kk5 (by rw [qZ hb]; exact hf)]; exact jV _
        · omega
      rw [e5, ke2, kb7 (by omega)]
    · exact km5 (by omega)
  unfold uF qK
  rw [e4]; exact ⟨e1, e2⟩
def AL (a b : List Int) (i k : Nat) (out : List Int) : Prop := out = fl (aP (ka5 i (qO a)) (qO b)) ∧ (aP (ka5 i (qO a)) (qO b)).length = k
def AJ (a b : List Int) (i j k : Nat) (out : List Int) : Prop := out = fl (aP (ka5 i (qO a)) (qO b) ++ tZ (ka1 a (i * 2) 0, ka1 a (i * 2 + 1) 0) (ka5 j (qO b))) ∧ (aP (ka5 i (qO a)) (qO b) ++ tZ (ka1 a (i * 2) 0, ka1 a (i * 2 + 1) 0) (ka5 j (qO b))).length = k
theorem AL.zero (a b : List Int) : AL a b 0 0 [] := ⟨rfl, rfl⟩
theorem AL.in {a b out : List Int} {i k : Nat} (h : AL a b i k out) : AJ a b i 0 k out := by
  unfold AJ
  rw [show tZ (ka1 a (i * 2) 0, ka1 a (i * 2 + 1) 0) (ka5 0 (qO b)) = [] from rfl, ke2]; exact h
theorem w9 (p : Sp) (s : List Sp) (q : Sp) : tZ p (s ++ [q]) = tZ p s ++ lY p q := by unfold tZ; rw [kl2]; simp
theorem k7n (s : List Sp) (p : Sp) (b : List Sp) : aP (s ++ [p]) b = aP s b ++ tZ p b := by unfold aP; rw [kl2]; simp
theorem AJ.y {a b out o : List Int} {m i j k : Nat} {u v : Int} (h : AJ a b i j k out) (hb : b.length = m * 2) (hj : j < m) (hu : u = max (ka1 a (i * 2) 0) (ka1 b (j * 2) 0)) (hv : v = min (ka1 a (i * 2 + 1) 0) (ka1 b (j * 2 + 1) 0)) (h1 : u ≤ v) (ho : o = out ++ [u, v]) : AJ a b i (j + 1) (k + 1) o := by
  have hE : lY (ka1 a (i * 2) 0, ka1 a (i * 2 + 1) 0) (ka1 b (j * 2) 0, ka1 b (j * 2 + 1) 0) = [(u, v)] := by
    unfold lY; rw [← hu, ← hv, if_pos h1]
  unfold AJ
  rw [yN hb hj, w9, hE, ← kc9, gS, ka8, ← h.1, h.2, ho]; exact ⟨rfl, rfl⟩
theorem AJ.n {a b out : List Int} {m i j k : Nat} (h : AJ a b i j k out) (hb : b.length = m * 2) (hj : j < m) (h1 : ¬ max (ka1 a (i * 2) 0) (ka1 b (j * 2) 0) ≤ min (ka1 a (i * 2 + 1) 0) (ka1 b (j * 2 + 1) 0)) : AJ a b i (j + 1) k out := by
  have hE : lY (ka1 a (i * 2) 0, ka1 a (i * 2 + 1) 0) (ka1 b (j * 2) 0, ka1 b (j * 2 + 1) 0) = [] := by
    unfold lY; rw [if_neg h1]
  unfold AJ
  rw [yN hb hj, w9, hE, ke2]; exact h
theorem AJ.out {a b out : List Int} {n m i j k : Nat} (h : AJ a b i j k out) (ha : a.length = n * 2) (hi : i < n) (hb : b.length = m * 2) (hj : m ≤ j) : AL a b (i + 1) k out := by
  unfold AJ at h
  rw [kb7 (l := qO b) (by rw [qZ hb]; exact hj), ← k7n, ← yN ha hi] at h
  exact h
theorem AL.fin {a b out : List Int} {n i k : Nat} (h : AL a b i k out) (ha : a.length = n * 2) (hi : n ≤ i) : out = fl (aP (qO a) (qO b)) ∧ (aP (qO a) (qO b)).length = k := by
  unfold AL at h
  rw [kb7 (by rw [qZ ha]; exact hi)] at h; exact h
def alS (a b : List Int) : List Int := fl (aP (qO a) (qO b))
def gZ (a b : List Int) : Nat := (aP (qO a) (qO b)).length
theorem u90 (a b : List Int) : (alS a b).length = gZ a b * 2 := d3 _
theorem k2m : ∀ (k : Nat) (s : List Sp), fl (ka5 k s) = ka5 (k * 2) (fl s)
  | 0, s => by rw [Nat.zero_mul]; rfl
  | k + 1, [] => by simp [fl]
  | k + 1, p :: s => by
    show p.1 :: p.2 :: fl (ka5 k s) = _
    rw [k2m k s, show (k + 1) * 2 = k * 2 + 1 + 1 by omega]; rfl
theorem u51 {a b : List Int} {k : Nat} (hk : k = min (gZ a b) 64) : uF a b = ka5 (k * 2) (alS a b) ∧ qK a b = k := by
  unfold uF qK alS
  rw [kb4, ← k2m, hk]
  refine ⟨?_, by unfold gZ; omega⟩
  congr 1
  unfold gZ
  rcases ki9 (aP (qO a) (qO b)).length 64 with h | h
  · rw [Nat.min_eq_left (by omega), kb7 (by omega), kb7 (kb8 _)]
  · rw [Nat.min_eq_right h]
theorem k7v {o : List Int} {k n : Nat} {p : Int} (h : ∀ j, k ≤ j → j < n → p < ka1 o (j * 2) 0) (h1 : p < ka1 o ((k - 1) * 2) 0) (hk : 1 ≤ k) : ∀ j, k - 1 ≤ j → j < n → p < ka1 o (j * 2) 0 := fun j hj hn => by
  rcases ki9 j k with h7 | h7
  · rw [show j = k - 1 by omega]; exact h1
  · exact h j h7 hn
theorem k18 {l : List Int} {k : Nat} (ha : ∀ j, j < k → vaE l j = true) (h : 1 ≤ k) : 0 ≤ ka1 l ((k - 1) * 2 + 1) 0 ∧ ka1 l ((k - 1) * 2 + 1) 0 ≤ 2147483647 := by
  have := of_decide_eq_true (ha (k - 1) (by omega)); omega
theorem v07 {l : List Int} {n : Nat} (hl : l.length = n * 2) : RG (kB l n) (kZ l n) := u14 (qR hl) (cW (bC hl))
theorem IX.ly {a b out : List Int} {n m i j k : Nat} {u v : Int} (h : IX a b i j k out) (ha : a.length = n * 2) (hb : b.length = m * 2) (oa : bW (qO a)) (ob : bW (qO b)) (hi : i < n) (hj : j < m) (hu : u = max (ka1 a (i * 2) 0) (ka1 b (j * 2) 0)) (hv : v = min (ka1 a (i * 2 + 1) 0) (ka1 b (j * 2 + 1) 0)) (h1 : u ≤ v) (h2 : ka1 a (i * 2 + 1) 0 < ka1 b (j * 2 + 1) 0) : IX a b (i + 1) j (k + 1) (out ++ [u, v]) := by
  have h9 := (h.put ha hb oa ob hi hj hu hv (.inl ⟨h1, rfl⟩)).1 h2
  rw [if_pos h1] at h9; exact h9
theorem IX.ln {a b out : List Int} {n m i j k : Nat} (h : IX a b i j k out) (ha : a.length = n * 2) (hb : b.length = m * 2) (oa : bW (qO a)) (ob : bW (qO b)) (hi : i < n) (hj : j < m) (h1 : ¬ max (ka1 a (i * 2) 0) (ka1 b (j * 2) 0) ≤ min (ka1 a (i * 2 + 1) 0) (ka1 b (j * 2 + 1) 0)) (h2 : ka1 a (i * 2 + 1) 0 < ka1 b (j * 2 + 1) 0) : IX a b (i + 1) j k out := by
  have h9 := (h.put ha hb oa ob hi hj rfl rfl (.inr ⟨h1, rfl⟩)).1 h2
  rw [if_neg h1] at h9; exact h9
theorem IX.ry {a b out : List Int} {n m i j k : Nat} {u v : Int} (h : IX a b i j k out) (ha : a.length = n * 2) (hb : b.length = m * 2) (oa : bW (qO a)) (ob : bW (qO b)) (hi : i < n) (hj : j < m) (hu : u = max (ka1 a (i * 2) 0) (ka1 b (j * 2) 0)) (hv : v = min (ka1 a (i * 2 + 1) 0) (ka1 b (j * 2 + 1) 0)) (h1 : u ≤ v) (h2 : ¬ ka1 a (i * 2 + 1) 0 < ka1 b (j * 2 + 1) 0) : IX a b i (j + 1) (k + 1) (out ++ [u, v]) := by
  have h9 := (h.put ha hb oa ob hi hj hu hv (.inl ⟨h1, rfl⟩)).2 h2
  rw [if_pos h1] at h9; exact h9
theorem IX.rn {a b out : List Int} {n m i j k : Nat} (h : IX a b i j k out) (ha : a.length = n * 2) (hb : b.length = m * 2) (oa : bW (qO a)) (ob : bW (qO b)) (hi : i < n) (hj : j < m) (h1 : ¬ max (ka1 a (i * 2) 0) (ka1 b (j * 2) 0) ≤ min (ka1 a (i * 2 + 1) 0) (ka1 b (j * 2 + 1) 0)) (h2 : ¬ ka1 a (i * 2 + 1) 0 < ka1 b (j * 2 + 1) 0) : IX a b i (j + 1) k out := by
  have h9 := (h.put ha hb oa ob hi hj rfl rfl (.inr ⟨h1, rfl⟩)).2 h2
  rw [if_neg h1] at h9; exact h9
theorem dp1 {A : List Int} {i n : Nat} (h : A.length = n * 2) : dI .i64 (ka3 ((i + 1) * 2) A) = dI .i64 (ka5 ((n - i - 1) * 2) (ka3 2 (ka3 (i * 2) A))) := by
  rw [List.drop_drop, kb7 (by rw [kb6]; omega), show i * 2 + 2 = (i + 1) * 2 by omega]
/-! the first span that holds another one -/
def l5 (b : List Int) (u v : Int) : Nat → Int
  | 0 => -1
  | k + 1 => if 0 ≤ l5 b u v k then l5 b u v k else if ka1 b (k * 2) 0 ≤ u ∧ v ≤ ka1 b (k * 2 + 1) 0 then (k : Int) else -1
theorem k2z {b : List Int} {u v : Int} {k : Nat} (h : l5 b u v k = -1) (h2 : ¬ (ka1 b (k * 2) 0 ≤ u ∧ v ≤ ka1 b (k * 2 + 1) 0)) : l5 b u v (k + 1) = -1 := by
  show (if 0 ≤ l5 b u v k then _ else _) = _
  rw [if_neg (by omega), if_neg h2]
theorem k13 {b : List Int} {u v : Int} {k : Nat} (h : l5 b u v k = -1) (h2 : ka1 b (k * 2) 0 ≤ u ∧ v ≤ ka1 b (k * 2 + 1) 0) : ∀ n, k < n → l5 b u v n = (k : Int)
  | n + 1, hn => by
    by_cases hk : k = n
    · subst hk
      show (if 0 ≤ l5 b u v k then _ else _) = _
      rw [if_neg (by omega), if_pos h2]
    · have := k13 h h2 n (by omega)
      show (if 0 ≤ l5 b u v n then _ else _) = _
      rw [if_pos (by omega)]; exact this
theorem s8 (b : List Int) (u v : Int) : ∀ n, (l5 b u v n = -1 ∧ ∀ j, j < n → ¬ (ka1 b (j * 2) 0 ≤ u ∧ v ≤ ka1 b (j * 2 + 1) 0)) ∨ ∃ k, k < n ∧ l5 b u v n = (k : Int) ∧ ka1 b (k * 2) 0 ≤ u ∧ v ≤ ka1 b (k * 2 + 1) 0
  | 0 => .inl ⟨rfl, fun j hj => absurd hj (Nat.not_lt_zero j)⟩
  | n + 1 => by
    rcases s8 b u v n with ⟨h, h2⟩ | ⟨k, h1, h2, h3⟩
    · by_cases h9 : ka1 b (n * 2) 0 ≤ u ∧ v ≤ ka1 b (n * 2 + 1) 0
      · exact .inr ⟨n, by omega, k13 h h9 _ (by omega), h9⟩
      · exact .inl ⟨k2z h h9, fun j hj => (Nat.lt_succ_iff_lt_or_eq.1 hj).elim (h2 j) (fun e => by subst e; exact h9)⟩
    · refine .inr ⟨k, by omega, ?_, h3⟩
      show (if 0 ≤ l5 b u v n then _ else _) = _
      rw [if_pos (by omega)]; exact h2
theorem v62 {b : List Int} {u v : Int} {m : Nat} (hb : b.length = m * 2) (h : 0 ≤ l5 b u v m) : zP b u v = true := by
  rcases s8 b u v m with ⟨h1, _⟩ | ⟨k, h1, _, h3⟩
  · omega
  · exact v60 hb h1 h3
theorem v63 {b : List Int} {u v : Int} {m : Nat} (hb : b.length = m * 2) (h : ¬ 0 ≤ l5 b u v m) : zP b u v = false := by
  rcases s8 b u v m with ⟨_, h1⟩ | ⟨k, _, h1, _⟩
  · exact v61 hb h1
  · omega
def CJ (b : List Int) (u v : Int) (j : Nat) (f : Bool) : Prop := f = (ka5 j (qO b)).any (ctE (u, v))
theorem CJ.zero (b : List Int) (u v : Int) : CJ b u v 0 false := rfl
theorem CJ.yes {b : List Int} {u v : Int} {j m : Nat} (h : CJ b u v j false) (hb : b.length = m * 2) (hj : j < m) (h1 : ka1 b (j * 2) 0 ≤ u ∧ v ≤ ka1 b (j * 2 + 1) 0) : CJ b u v (j + 1) true := by
  unfold CJ at *; rw [yN hb hj, km6, ← h]
  show true = (decide _ || false)
  rw [decide_eq_true (show ka1 b (j * 2) 0 ≤ u ∧ v ≤ ka1 b (j * 2 + 1) 0 from h1)]; rfl
theorem CJ.no {b : List Int} {u v : Int} {j m : Nat} (h : CJ b u v j false) (hb : b.length = m * 2) (hj : j < m) (h1 : ¬ (ka1 b (j * 2) 0 ≤ u ∧ v ≤ ka1 b (j * 2 + 1) 0)) : CJ b u v (j + 1) false := by
  unfold CJ at *; rw [yN hb hj, km6, ← h]
  show false = (decide _ || false)
  rw [decide_eq_false (show ¬ (ka1 b (j * 2) 0 ≤ u ∧ v ≤ ka1 b (j * 2 + 1) 0) from h1)]; rfl
theorem CJ.fin {b : List Int} {u v : Int} {j m : Nat} {f : Bool} (h : CJ b u v j f) (hb : b.length = m * 2) (hj : m ≤ j) : zP b u v = f := by
  unfold CJ at h; rw [kb7 (by rw [qZ hb]; exact hj)] at h; exact h.symm
theorem s5 {a b : Int} : 0 ≤ aL a b := by unfold aL; split <;> omega
theorem dF (x : Int) : IntKind.u64.wrap x = x % 18446744073709551616 := by simp [IntKind.wrap, IntKind.bits, IntKind.signed]
end Go.Proofs.YtbicifcgghmhaaaGreat
