/- Sets of integers. No statement is proved here. -/
import Derived.Test.YtbicifcgghmhaaaGreatZLBy
namespace Go.Proofs.YtbicifcgghmhaaaGreat
open Go.ChangeShapes Go.WideShapes Go.ChangeAt Go.RowKit
open Bool renaming false_ne_true → ki2
open Int renaming le_refl → kd7
open List renaming all_eq_true → ke8, any_append → km3, any_eq_true → kh3, append_assoc → kd1, append_nil → kd6, drop → ka3, drop_of_length_le → kk6, eq_nil_of_length_eq_zero → kd9, flatMap_append → kl0, getD → ka1, getElem?_drop → ke4, getElem?_eq_getElem → ka7, length_append → ka6, length_cons → ka9, length_drop → kb2, length_nil → kb0, length_reverse → kc1, length_take → kb1, mem_cons_of_mem → kc0, mem_cons_self → kb6, mem_of_getElem? → ke3, mem_of_mem_take → kh2, reverse_cons → kf9, take → ka5, take_append_drop → kg6, take_left' → km2, take_of_length_le → kb9
open Nat renaming eq_zero_or_pos → kl9, le_refl → kc4, lt_or_ge → kj0, zero_le → ke2
set_option linter.unusedVariables false
set_option linter.unusedSimpArgs false
/-! sets of integers: spans as pairs -/
abbrev Sp := Int × Int
def dW (p : Sp) : Prop := 0 ≤ p.1 ∧ p.1 ≤ p.2 ∧ p.2 ≤ 2147483647
def cB : List Sp → Prop
  | [] => True
  | p :: r => dW p ∧ (∀ q ∈ r, p.2 + 1 < q.1) ∧ cB r
def cH (ps : List Sp) (x : Int) : Prop := ∃ p ∈ ps, p.1 ≤ x ∧ x ≤ p.2
theorem dE (x : Int) : ¬ cH [] x := fun ⟨p, h, _⟩ => by cases h
theorem q6 {p : Sp} {r : List Sp} {x : Int} : cH (p :: r) x ↔ (p.1 ≤ x ∧ x ≤ p.2) ∨ cH r x := by
  constructor
  · rintro ⟨q, hq, h⟩
    rcases List.mem_cons.1 hq with rfl | hq
    · exact .inl h
    · exact .inr ⟨q, hq, h⟩
  · rintro (h | ⟨q, hq, h⟩)
    · exact ⟨p, kb6 .., h⟩
    · exact ⟨q, kc0 _ hq, h⟩
theorem dC : ∀ {ps : List Sp}, cB ps → ∀ p ∈ ps, dW p
  | [], _, p, hp => by cases hp
  | q :: r, h, p, hp => by
    rcases List.mem_cons.1 hp with rfl | hp
    · exact h.1
    · exact dC h.2.2 p hp
theorem fS {p : Sp} {r : List Sp} (h : ∀ q ∈ r, p.2 + 1 < q.1) {x : Int} (hx : cH r x) : p.2 + 1 < x := by
  obtain ⟨q, hq, h1, _⟩ := hx
  have := h q hq; omega
theorem k6w : ∀ {a b : List Sp}, cB a → cB b → (∀ x, cH a x ↔ cH b x) → a = b
  | [], [], _, _, _ => rfl
  | [], q :: r, _, hb, h => absurd ((h q.1).2 (q6.2 (.inl ⟨kd7 _, hb.1.2.1⟩))) (dE _)
  | p :: r, [], ha, _, h => absurd ((h p.1).1 (q6.2 (.inl ⟨kd7 _, ha.1.2.1⟩))) (dE _)
  | p :: r, q :: s, ha, hb, h => by
    have m1 : cH (p :: r) p.1 := q6.2 (.inl ⟨kd7 _, ha.1.2.1⟩)
    have m2 : cH (q :: s) q.1 := q6.2 (.inl ⟨kd7 _, hb.1.2.1⟩)
    have v1 := ha.1; have v2 := hb.1
    unfold dW at v1 v2
    have e1 : p.1 = q.1 := by
      have n1 := q6.1 ((h _).1 m1)
      have n2 := q6.1 ((h _).2 m2)
      have g1 : cH s p.1 → q.2 + 1 < p.1 := fS hb.2.1
      have g2 : cH r q.1 → p.2 + 1 < q.1 := fS ha.2.1
      rcases n1 with n1 | n1
      · rcases n2 with n2 | n2
        · omega
        · have := g2 n2; omega
      · have := g1 n1
        rcases n2 with n2 | n2
        · omega
        · have := g2 n2; omega
    have no1 : ¬ cH (p :: r) (p.2 + 1) := fun hh => by
      rcases q6.1 hh with hh | hh
      · omega
      · have := fS ha.2.1 hh; omega
    have no2 : ¬ cH (q :: s) (q.2 + 1) := fun hh => by
      rcases q6.1 hh with hh | hh
      · omega
      · have := fS hb.2.1 hh; omega
    have e2 : p.2 = q.2 := by
      rcases Int.lt_trichotomy p.2 q.2 with hlt | heq | hgt
      · exact absurd ((h (p.2 + 1)).2 (q6.2 (.inl ⟨by omega, by omega⟩))) no1
      · exact heq
      · exact absurd ((h (q.2 + 1)).1 (q6.2 (.inl ⟨by omega, by omega⟩))) no2
    obtain ⟨a, b⟩ := p
    obtain ⟨c, d⟩ := q
    obtain rfl : a = c := e1
    obtain rfl : b = d := e2
    congr 1
    refine k6w ha.2.2 hb.2.2 fun x => ?_
    have hx := h x
    rw [q6, q6] at hx
    constructor
    · intro hr
      have := fS ha.2.1 hr
      rcases hx.1 (.inr hr) with h9 | h9
      · exfalso; simp only at this h9; omega
      · exact h9
    · intro hr
      have := fS hb.2.1 hr
      rcases hx.2 (.inr hr) with h9 | h9
      · exfalso; simp only at this h9; omega
      · exact h9
/-! spans that are joined: the last span first -/
def lF (o : List Sp) (x : Sp) : List Sp := match o with
  | [] => [x]
  | l :: r => if x.1 ≤ l.2 + 1 then (l.1, max l.2 x.2) :: r else x :: l :: r
def okR : List Sp → Prop
  | [] => True
  | p :: r => dW p ∧ (∀ q ∈ r, q.2 + 1 < p.1) ∧ okR r
theorem k2l : ∀ {o : List Sp} {r : List Sp}, okR o → cB r → (∀ p ∈ o, ∀ q ∈ r, p.2 + 1 < q.1) → cB (o.reverse ++ r)
  | [], r, _, h, _ => h
  | p :: o, r, ho, hr, h => by
    rw [kf9, kd1]
    refine k2l ho.2.2 ⟨ho.1, fun q hq => h p (kb6 ..) q hq, hr⟩ fun a ha b hb => ?_
    rcases List.mem_cons.1 hb with rfl | hb
    · exact ho.2.1 a ha
    · exact h a (kc0 _ ha) b hb
theorem u79 (o : List Sp) (x : Sp) : (lF o x).length ≤ o.length + 1 := by
  unfold lF
  cases o with
  | nil => exact kc4 _
  | cons l r => show (if _ then _ else _ : List Sp).length ≤ _; split <;> simp
theorem v13 {o : List Sp} {x : Sp} (h : okR o) (hx : dW x) (hl : ∀ l r, o = l :: r → l.1 ≤ x.1) : okR (lF o x) := by
  cases o with
  | nil => exact ⟨hx, fun q hq => (by cases hq), trivial⟩
  | cons l r =>
    have h1 := hl l r rfl
    have hv := h.1
    unfold dW at hv hx
    show okR (if _ then _ else _)
    split
    · refine ⟨⟨hv.1, ?_, ?_⟩, h.2.1, h.2.2⟩
      · show l.1 ≤ max l.2 x.2; omega
      · show max l.2 x.2 ≤ _; omega
    · refine ⟨hx, fun q hq => ?_, h⟩
      rcases List.mem_cons.1 hq with rfl | hq
      · omega
      · have := h.2.1 q hq; omega
theorem v14 {o : List Sp} {x : Sp} (h : okR o) (hx : dW x) (hl : ∀ l r, o = l :: r → l.1 ≤ x.1) (z : Int) : cH (lF o x) z ↔ cH o z ∨ (x.1 ≤ z ∧ z ≤ x.2) := by
  cases o with
  | nil => show cH [x] z ↔ _; rw [q6]; exact or_comm
  | cons l r =>
    have h1 := hl l r rfl
    have hv := h.1
    unfold dW at hv hx
    show cH (if _ then _ else _) z ↔ _
    split
    · rw [q6, q6]
      show (l.1 ≤ z ∧ z ≤ max l.2 x.2) ∨ _ ↔ _
      constructor
      · rintro (h9 | h9)
        · by_cases h8 : z ≤ l.2
          · exact .inl (.inl ⟨h9.1, h8⟩)
          · exact .inr ⟨by omega, by omega⟩
        · exact .inl (.inr h9)
      · rintro ((h9 | h9) | h9)
        · exact .inl ⟨h9.1, by omega⟩
        · exact .inr h9
        · exact .inl ⟨by omega, by omega⟩
    · rw [q6]; exact or_comm
theorem u1s {o : List Sp} {x : Sp} (hl : ∀ l r, o = l :: r → l.1 ≤ x.1) : ∀ l r, lF o x = l :: r → l.1 ≤ x.1 := by
  intro l r e
  cases o with
  | nil => have e : [x] = l :: r := e; cases e; exact kd7 _
  | cons a s =>
    have h1 := hl a s rfl
    have e : (if x.1 ≤ a.2 + 1 then (a.1, max a.2 x.2) :: s else x :: a :: s) = l :: r := e
    split at e
    · cases e; exact h1
    · cases e; exact kd7 _
def jnR (s : List Sp) : List Sp := s.foldl lF []
def srP (s : List Sp) : Prop := s.Pairwise fun a b => a.1 ≤ b.1
theorem k7m : ∀ (s o : List Sp), okR o → (∀ p ∈ s, dW p) → srP s → (∀ l r, o = l :: r → ∀ p ∈ s, l.1 ≤ p.1) → okR (s.foldl lF o) ∧ (∀ z, cH (s.foldl lF o) z ↔ cH o z ∨ cH s z) ∧ (s.foldl lF o).length ≤ o.length + s.length
  | [], o, h, _, _, _ => ⟨h, fun z => ⟨.inl, fun h => h.elim id fun h => absurd h (dE _)⟩, kc4 _⟩
  | x :: s, o, h, hv, hs, hl => by
    have hx := hv x (kb6 ..)
    have hl1 : ∀ l r, o = l :: r → l.1 ≤ x.1 := fun l r e => hl l r e x (kb6 ..)
    obtain ⟨h1, h2⟩ := List.pairwise_cons.1 hs
    obtain ⟨i1, i2, i3⟩ := k7m s (lF o x) (v13 h hx hl1) (fun p hp => hv p (kc0 _ hp)) h2 (fun l r e p hp => by have := u1s hl1 l r e; have := h1 p hp; omega)
    refine ⟨i1, fun z => ?_, ?_⟩
    · show cH (s.foldl lF (lF o x)) z ↔ _
      rw [i2 z, v14 h hx hl1 z, q6, or_assoc]
    · show (s.foldl lF (lF o x)).length ≤ _
      have := u79 o x
      simp only [ka9]; omega
def jnP (s : List Sp) : List Sp := (jnR s).reverse
theorem k7l {s : List Sp} (hv : ∀ p ∈ s, dW p) (hs : srP s) : cB (jnP s) ∧ (∀ z, cH (jnP s) z ↔ cH s z) ∧ (jnP s).length ≤ s.length := by
  obtain ⟨h1, h2, h3⟩ := k7m s [] trivial hv hs (fun l r e => by cases e)
  refine ⟨?_, fun z => ?_, ?_⟩
  · have := k2l (r := []) h1 trivial (fun _ _ q hq => by cases hq)
    rw [kd6] at this; exact this
  · have e : cH (jnP s) z ↔ cH (jnR s) z := by
      unfold cH jnP
      simp only [List.mem_reverse]
    rw [e]
    have := h2 z
    rw [show s.foldl lF [] = jnR s from rfl] at this
    rw [this]
    exact ⟨fun h => h.elim (fun h => absurd h (dE _)) id, .inr⟩
  · unfold jnP jnR; rw [kc1]
    have : (s.foldl lF []).length ≤ ([] : List Sp).length + s.length := h3
    rw [kb0, Nat.zero_add] at this; exact this
theorem xN {a b : List Sp} (h : a.Perm b) (z : Int) : cH a z ↔ cH b z := by
  unfold cH
  constructor
  · rintro ⟨p, hp, h9⟩; exact ⟨p, h.mem_iff.1 hp, h9⟩
  · rintro ⟨p, hp, h9⟩; exact ⟨p, h.mem_iff.2 hp, h9⟩
theorem u22 {a b : List Sp} (h : a.Perm b) (hv : ∀ p ∈ a, dW p) (ha : srP a) (hb : srP b) : jnP a = jnP b := by
  have h1 := k7l hv ha
  have h2 := k7l (s := b) (fun p hp => hv p (h.mem_iff.2 hp)) hb
  exact k6w h1.1 h2.1 fun z => (h1.2.1 z).trans ((xN h z).trans (h2.2.1 z).symm)
/-! intersections -/
def mL (p q : Sp) : List Sp := if max p.1 q.1 ≤ min p.2 q.2 then [(max p.1 q.1, min p.2 q.2)] else []
def wJ (p : Sp) (b : List Sp) : List Sp := b.flatMap (mL p)
def aU (a b : List Sp) : List Sp := a.flatMap fun p => wJ p b
theorem xW {p q : Sp} (h : p.2 < q.1 ∨ q.2 < p.1) : mL p q = [] := by unfold mL; rw [if_neg (by omega)]
theorem xU {p : Sp} : ∀ {b : List Sp}, (∀ q ∈ b, p.2 < q.1 ∨ q.2 < p.1) → wJ p b = []
  | [], _ => rfl
  | q :: b, h => by
    show mL p q ++ wJ p b = []
    rw [xW (h q (kb6 ..)), xU fun r hr => h r (kc0 _ hr)]; rfl
theorem lG : ∀ a : List Sp, aU a [] = []
  | [] => rfl
  | p :: a => by show wJ p [] ++ aU a [] = []; rw [lG a]; rfl
theorem k33 {x y : Sp} {a b : List Sp} (hb : cB (y :: b)) (h : x.2 < y.2) : aU (x :: a) (y :: b) = mL x y ++ aU a (y :: b) := by
  show (mL x y ++ wJ x b) ++ _ = _
  rw [xU fun q hq => .inl (by have := hb.2.1 q hq; omega), kd6]; rfl
theorem xV {y : Sp} {b : List Sp} : ∀ {a : List Sp}, (∀ p ∈ a, y.2 < p.1) → aU a (y :: b) = aU a b
  | [], _ => rfl
  | p :: a, h => by
    show (mL p y ++ wJ p b) ++ aU a (y :: b) = wJ p b ++ aU a b
    rw [xW (.inr (h p (kb6 ..))), xV fun q hq => h q (kc0 _ hq)]; rfl
theorem xS {x y : Sp} {a b : List Sp} (ha : cB (x :: a)) (h : ¬ x.2 < y.2) : aU (x :: a) (y :: b) = mL x y ++ aU (x :: a) b := by
  show (mL x y ++ wJ x b) ++ aU a (y :: b) = mL x y ++ (wJ x b ++ aU a b)
  rw [xV fun p hp => by have := ha.2.1 p hp; omega, kd1]
theorem u23 (p q : Sp) : (mL p q).length ≤ 1 := by unfold mL; split <;> simp
theorem k15 : ∀ (n : Nat) (a b : List Sp), a.length + b.length ≤ n → cB a → cB b → (aU a b).length ≤ a.length + b.length
  | _, [], b, _, _, _ => ke2 _
  | _, p :: a, [], _, _, _ => by rw [lG]; exact ke2 _
  | 0, p :: a, q :: b, h, _, _ => by simp at h
  | n + 1, x :: a, y :: b, h, ha, hb => by
    have h1 := u23 x y
    by_cases hxy : x.2 < y.2
    · rw [k33 hb hxy, ka6]
      have := k15 n a (y :: b) (by simp at h ⊢; omega) ha.2.2 hb
      simp only [ka9] at this ⊢; omega
    · rw [xS ha hxy, ka6]
      have := k15 n (x :: a) b (by simp at h ⊢; omega) ha hb.2.2
      simp only [ka9] at this ⊢; omega
theorem f8 {p q r : Sp} : r ∈ mL p q ↔ max p.1 q.1 ≤ min p.2 q.2 ∧ r = (max p.1 q.1, min p.2 q.2) := by
  unfold mL
  split
  · rename_i h; rw [List.mem_singleton]; exact ⟨fun e => ⟨h, e⟩, fun e => e.2⟩
  · rename_i h; exact ⟨fun e => (by cases e), fun e => absurd e.1 h⟩
theorem sU {a b : List Sp} {r : Sp} : r ∈ aU a b ↔ ∃ p ∈ a, ∃ q ∈ b, r ∈ mL p q := by
  unfold aU wJ
  simp only [List.mem_flatMap]
theorem nY (a b : List Sp) (x : Int) : cH (aU a b) x ↔ cH a x ∧ cH b x := by
  constructor
  · rintro ⟨r, hr, h⟩
    obtain ⟨p, hp, q, hq, hr⟩ := sU.1 hr
    obtain ⟨h1, rfl⟩ := f8.1 hr
    simp only at h
    exact ⟨⟨p, hp, by omega, by omega⟩, ⟨q, hq, by omega, by omega⟩⟩
  · rintro ⟨⟨p, hp, h1⟩, ⟨q, hq, h2⟩⟩
    exact ⟨_, sU.2 ⟨p, hp, q, hq, f8.2 ⟨by omega, rfl⟩⟩, by simp only; omega, by simp only; omega⟩
theorem sM : ∀ {a b : List Sp}, cB a → cB b → (∀ p ∈ a, ∀ q ∈ b, p.2 + 1 < q.1) → cB (a ++ b)
  | [], b, _, hb, _ => hb
  | p :: a, b, ha, hb, h => ⟨ha.1, fun q hq => (List.mem_append.1 hq).elim (ha.2.1 q) (h p (kb6 ..) q), sM ha.2.2 hb fun r hr q hq => h r (kc0 _ hr) q hq⟩
theorem u7j {p q : Sp} (hp : dW p) (hq : dW q) : cB (mL p q) := by
  unfold mL
  unfold dW at hp hq
  split
  · exact ⟨⟨by show 0 ≤ max p.1 q.1; omega, by assumption, by show min p.2 q.2 ≤ _; omega⟩, fun _ h => (by cases h), trivial⟩
  · trivial
theorem k7p {p : Sp} (hp : dW p) : ∀ {b : List Sp}, cB b → cB (wJ p b)
  | [], _ => trivial
  | q :: b, h => by
    refine sM (u7j hp h.1) (k7p hp h.2.2) fun r hr s hs => ?_
    obtain ⟨_, rfl⟩ := f8.1 hr
    obtain ⟨t, ht, hs⟩ := List.mem_flatMap.1 hs
    obtain ⟨_, rfl⟩ := f8.1 hs
    have := h.2.1 t ht
    simp only; omega
theorem k32 : ∀ {a b : List Sp}, cB a → cB b → cB (aU a b)
  | [], _, _, _ => trivial
  | p :: a, b, ha, hb => by
    refine sM (k7p ha.1 hb) (k32 ha.2.2 hb) fun r hr s hs => ?_
    obtain ⟨q, hq, hr⟩ := List.mem_flatMap.1 hr
    obtain ⟨_, rfl⟩ := f8.1 hr
    obtain ⟨t, ht, u, hu, hs⟩ := sU.1 hs
    obtain ⟨_, rfl⟩ := f8.1 hs
    have := ha.2.1 t ht
    simp only; omega
/-! inside -/
def ctE (p q : Sp) : Bool := decide (q.1 ≤ p.1 ∧ p.2 ≤ q.2)
def inP (a b : List Sp) : Bool := a.all fun p => b.any (ctE p)
theorem k6j : ∀ {b : List Sp} {p : Sp}, cB b → p.1 ≤ p.2 → (∀ x, p.1 ≤ x → x ≤ p.2 → cH b x) → ∃ q ∈ b, q.1 ≤ p.1 ∧ p.2 ≤ q.2
  | [], p, _, hp, h => absurd (h p.1 (kd7 _) hp) (dE _)
  | q :: b, p, hb, hp, h => by
    have hq := hb.1
    unfold dW at hq
    rcases q6.1 (h p.1 (kd7 _) hp) with h1 | h1
    · refine ⟨q, kb6 .., h1.1, ?_⟩
      apply Int.not_lt.1
      intro hlt
      rcases q6.1 (h (q.2 + 1) (by omega) (by omega)) with h2 | h2
      · omega
      · have := fS hb.2.1 h2; omega
    · have h3 := fS hb.2.1 h1
      obtain ⟨r, hr, h4⟩ := k6j (p := p) hb.2.2 hp fun x hx hx2 => by
        rcases q6.1 (h x hx hx2) with h2 | h2
        · omega
        · exact h2
      exact ⟨r, kc0 _ hr, h4⟩
theorem u7n {a b : List Sp} (ha : cB a) (hb : cB b) (h : ∀ x, cH a x → cH b x) : inP a b = true := by
  unfold inP
  rw [ke8]
  intro p hp
  have hv := dC ha p hp
  unfold dW at hv
  obtain ⟨q, hq, h1⟩ := k6j hb hv.2.1 fun x h1 h2 => h x ⟨p, hp, h1, h2⟩
  rw [kh3]
  exact ⟨q, hq, decide_eq_true h1⟩
/-! the nearest -/
def iH (n : Int) (p : Sp) : Int := max p.1 (min p.2 n)
def aQ (a b : Int) : Int := if b < a then a - b else b - a
def nrP (n : Int) : List Sp → Option Int → Option Int
  | [], o => o
  | p :: r, o => nrP n r (match o with
    | none => some (iH n p)
    | some v => if aQ (iH n p) n < aQ v n then some (iH n p) else some v)
theorem tO {p : Sp} (hp : p.1 ≤ p.2) (n x : Int) (hx : p.1 ≤ x ∧ x ≤ p.2) : aQ (iH n p) n < aQ x n ∨ iH n p = x ∨ (aQ (iH n p) n = aQ x n ∧ iH n p ≤ x) := by
  unfold aQ iH
  split <;> split <;> omega
theorem sO : ∀ (n : Int) (s : List Sp) (v : Int), ∃ w, nrP n s (some v) = some w
  | n, [], v => ⟨v, rfl⟩
  | n, p :: r, v => by
    show ∃ w, nrP n r (if aQ (iH n p) n < aQ v n then some (iH n p) else some v) = some w
    split
    · exact sO n r _
    · exact sO n r _
theorem sP : ∀ (n : Int) (s : List Sp) (v w : Int), cB s → (∀ q ∈ s, v < q.1) → nrP n s (some v) = some w → (w = v ∨ cH s w) ∧ (aQ w n < aQ v n ∨ (aQ w n = aQ v n ∧ w ≤ v)) ∧ ∀ x, cH s x → aQ w n < aQ x n ∨ (aQ w n = aQ x n ∧ w ≤ x)
  | n, [], v, w, _, _, h => by
    have h : some v = some w := h
    cases h
    exact ⟨.inl rfl, .inr ⟨rfl, kd7 _⟩, fun x hx => absurd hx (dE _)⟩
  | n, p :: r, v, w, hs, hv, h => by
    have hp := hs.1
    unfold dW at hp
    have h : nrP n r (if aQ (iH n p) n < aQ v n then some (iH n p) else some v) = some w := h
    have hc : p.1 ≤ iH n p ∧ iH n p ≤ p.2 := by unfold iH; omega
    have hvp := hv p (kb6 ..)
    by_cases hd : aQ (iH n p) n < aQ v n
    · rw [if_pos hd] at h
      obtain ⟨h1, h2, h3⟩ := sP n r (iH n p) w hs.2.2 (fun q hq => by have := hs.2.1 q hq; omega) h
      refine ⟨.inr (q6.2 (h1.imp (fun e => by rw [e]; exact hc) id)), by omega, fun x hx => ?_⟩
      rcases q6.1 hx with hx | hx
      · have := tO hp.2.1 n x hx
        rcases this with h9 | h9 | h9
        · omega
        · rw [← h9]; omega
        · omega
      · exact h3 x hx
    · rw [if_neg hd] at h
      obtain ⟨h1, h2, h3⟩ := sP n r v w hs.2.2 (fun q hq => hv q (kc0 _ hq)) h
      refine ⟨h1.imp id (fun e => q6.2 (.inr e)), h2, fun x hx => ?_⟩
      rcases q6.1 hx with hx | hx
      · have := tO hp.2.1 n x hx
        have hw : w ≤ v ∨ aQ w n < aQ v n := by omega
        rcases this with h9 | h9 | h9
        · omega
        · rw [← h9]; omega
        · omega
      · exact h3 x hx
/-! spans told as one list of numbers -/
def qX : List Int → List Sp
  | a :: b :: r => (a, b) :: qX r
  | _ => []
def fl : List Sp → List Int
  | [] => []
  | p :: r => p.1 :: p.2 :: fl r
theorem hY : ∀ s : List Sp, qX (fl s) = s
  | [] => rfl
  | p :: r => by show (p.1, p.2) :: qX (fl r) = p :: r; rw [hY r]
theorem eT : ∀ s : List Sp, (fl s).length = s.length * 2
  | [] => rfl
  | p :: r => by show (fl r).length + 1 + 1 = (r.length + 1) * 2; rw [eT r]; omega
theorem iF : ∀ a b : List Sp, fl (a ++ b) = fl a ++ fl b
  | [], b => rfl
  | p :: a, b => by show p.1 :: p.2 :: fl (a ++ b) = p.1 :: p.2 :: (fl a ++ fl b); rw [iF a b]
theorem k86 : ∀ (n : Nat) (l : List Int), l.length = n * 2 → fl (qX l) = l
  | 0, [], _ => rfl
  | 0, _ :: _, h => by simp at h
  | n + 1, a :: b :: r, h => by
    show a :: b :: fl (qX r) = a :: b :: r
    rw [k86 n r (by simp at h; omega)]
  | n + 1, [_], h => by simp at h; omega
  | n + 1, [], h => by simp at h
theorem uF {n : Nat} {l : List Int} (h : l.length = n * 2) : (qX l).length = n := by
  have h1 := eT (qX l)
  rw [k86 n l h] at h1; omega
theorem iU {n : Nat} {a b : List Int} (h : a.length = n * 2) : qX (a ++ b) = qX a ++ qX b := by
  induction n generalizing a with
  | zero =>
    have : a = [] := kd9 (by omega)
    subst this; rfl
  | succ n ih =>
    match a, h with
    | x :: y :: r, h =>
      show (x, y) :: qX (r ++ b) = (x, y) :: (qX r ++ qX b)
      rw [ih (by simp at h; omega)]
    | [_], h => simp at h; omega
    | [], h => simp at h
theorem vZ : ∀ (n : Nat) (l : List Int) (j : Nat), l.length = n * 2 → j < n → (qX l)[j]? = some (ka1 l (j * 2) 0, ka1 l (j * 2 + 1) 0)
  | n + 1, a :: b :: r, 0, _, _ => rfl
  | n + 1, a :: b :: r, j + 1, h, hj => by
    show (qX r)[j]? = _
    rw [vZ n r j (by simp at h; omega) (by omega)]
    rw [show (j + 1) * 2 = j * 2 + 1 + 1 by omega]; rfl
  | n + 1, [_], _, h, _ => by simp at h; omega
  | n + 1, [], _, h, _ => by simp at h
theorem yO {n : Nat} {l : List Int} (h : l.length = n * 2) {p : Sp} : p ∈ qX l ↔ ∃ j, j < n ∧ p = (ka1 l (j * 2) 0, ka1 l (j * 2 + 1) 0) := by
  constructor
  · intro hp
    obtain ⟨j, hj, e⟩ := List.mem_iff_getElem.1 hp
    rw [uF h] at hj
    have := vZ n l j h hj
    rw [ka7 (by rw [uF h]; exact hj), e] at this
    exact ⟨j, hj, Option.some.inj this⟩
  · rintro ⟨j, hj, rfl⟩
    exact ke3 (vZ n l j h hj)
theorem k6b {n : Nat} {l : List Int} (h : l.length = n * 2) {k : Nat} (hk : k ≤ n) : qX (ka5 (k * 2) l) = ka5 k (qX l) := by
  have h1 := iU (n := k) (a := ka5 (k * 2) l) (b := ka3 (k * 2) l) (by rw [kb1]; omega)
  rw [kg6] at h1
  have h2 := uF (n := k) (l := ka5 (k * 2) l) (by rw [kb1]; omega)
  conv => rhs; rw [h1]
  exact (km2 h2).symm
theorem k6c {n : Nat} {l : List Int} (h : l.length = n * 2) {k : Nat} (hk : k ≤ n) : qX (ka3 (k * 2) l) = ka3 k (qX l) := by
  have h1 := iU (n := k) (a := ka5 (k * 2) l) (b := ka3 (k * 2) l) (by rw [kb1]; omega)
  rw [kg6] at h1
  have h2 := uF (n := k) (l := ka5 (k * 2) l) (by rw [kb1]; omega)
  conv => rhs; rw [h1]
  exact (List.drop_left' h2).symm
theorem w8 {n : Nat} {l : List Int} (h : l.length = n * 2) (a b : Int) : qX (l ++ [a, b]) = qX l ++ [(a, b)] := iU h
theorem cI {n : Nat} {l : List Int} (h : l.length = n * 2) {k : Nat} (hk : k < n) : ka3 k (qX l) = (ka1 l (k * 2) 0, ka1 l (k * 2 + 1) 0) :: ka3 (k + 1) (qX l) := by
  have hl := uF h
  rw [List.drop_eq_getElem_cons (by omega)]
  have := vZ n l k h hk
  rw [ka7 (by omega)] at this
  rw [Option.some.inj this]
theorem yW {n : Nat} {l : List Int} (h : l.length = n * 2) {k : Nat} (hk : k < n) : ka5 (k + 1) (qX l) = ka5 k (qX l) ++ [(ka1 l (k * 2) 0, ka1 l (k * 2 + 1) 0)] := by
  rw [List.take_add_one, vZ n l k h hk]; rfl
/-! valid sets -/
def vaE (l : List Int) (j : Nat) : Bool := decide (0 ≤ ka1 l (j * 2) 0 ∧ ka1 l (j * 2) 0 ≤ ka1 l (j * 2 + 1) 0 ∧ ka1 l (j * 2 + 1) 0 ≤ 2147483647 ∧ (j = 0 ∨ ka1 l ((j - 1) * 2 + 1) 0 + 1 < ka1 l (j * 2) 0))
def gK (l : List Int) (n : Nat) : Bool := decide (n ≤ 64) && (List.range n).all (vaE l)
theorem wS {l : List Int} {n : Nat} (h1 : n ≤ 64) (h : ∀ j, j < n → vaE l j = true) : gK l n = true :=
  Bool.and_eq_true_iff.2 ⟨decide_eq_true h1, List.all_eq_true.2 fun j hj => h j (List.mem_range.1 hj)⟩
theorem k1v {l : List Int} {n : Nat} (h1 : ¬ n ≤ 64) : gK l n = false := by unfold gK; rw [decide_eq_false h1]; rfl
theorem k1u {l : List Int} {n k : Nat} (hk : k < n) (h : vaE l k = false) : gK l n = false := by
  cases hb : gK l n with
  | false => rfl
  | true =>
    have := List.all_eq_true.1 (Bool.and_eq_true_iff.1 hb).2 k (List.mem_range.2 hk)
    rw [h] at this; cases this
theorem k6v : ∀ (s : List Sp), (∀ (j : Nat) (p : Sp), s[j]? = some p → dW p) → (∀ (j : Nat) (p q : Sp), s[j]? = some p → s[j + 1]? = some q → p.2 + 1 < q.1) → cB s
  | [], _, _ => trivial
  | p :: r, h1, h2 => by
    have ih := k6v r (fun j q hq => h1 (j + 1) q hq) (fun j a b ha hb => h2 (j + 1) a b ha hb)
    refine ⟨h1 0 p rfl, ?_, ih⟩
    have hp := h1 0 p rfl
    match r, ih, h2 with
    | [], _, _ => intro q hq; cases hq
    | a :: r, ih, h2 =>
      have h3 := h2 0 p a rfl rfl
      have ha := ih.1
      unfold dW at ha
      intro q hq
      rcases List.mem_cons.1 hq with rfl | hq
      · exact h3
      · have := ih.2.1 q hq; omega
theorem iW : ∀ (s : List Sp), cB s → ∀ (j : Nat) (p q : Sp), s[j]? = some p → s[j + 1]? = some q → p.2 + 1 < q.1
  | [], _, j, p, q, h, _ => by simp at h
  | a :: r, h, 0, p, q, hp, hq => by
    have hp : some a = some p := hp
    cases hp
    exact h.2.1 q (ke3 (show r[0]? = some q from hq))
  | a :: r, h, j + 1, p, q, hp, hq => iW r h.2.2 j p q hp hq
theorem aI {l : List Int} {n : Nat} (hl : l.length = n * 2) : gK l n = true ↔ n ≤ 64 ∧ cB (qX l) := by
  constructor
  · intro h
    have h1 := Bool.and_eq_true_iff.1 h
    have ha : ∀ j, j < n → vaE l j = true := fun j hj => List.all_eq_true.1 h1.2 j (List.mem_range.2 hj)
    refine ⟨of_decide_eq_true h1.1, k6v _ (fun j p hp => ?_) (fun j p q hp hq => ?_)⟩
    · have hj : j < n := by have := (List.getElem?_eq_some_iff.1 hp).1; rw [uF hl] at this; exact this
      rw [vZ n l j hl hj] at hp
      cases hp
      have := of_decide_eq_true (ha j hj)
      exact ⟨this.1, this.2.1, this.2.2.1⟩
    · have hj : j + 1 < n := by have := (List.getElem?_eq_some_iff.1 hq).1; rw [uF hl] at this; exact this
      rw [vZ n l j hl (by omega)] at hp
      rw [vZ n l (j + 1) hl hj] at hq
      cases hp; cases hq
      have := (of_decide_eq_true (ha (j + 1) hj)).2.2.2
      rw [show j + 1 - 1 = j by omega] at this
      rcases this with h9 | h9
      · omega
      · exact h9
  · rintro ⟨h1, h2⟩
    refine wS h1 fun j hj => decide_eq_true ?_
    have hv := dC h2 _ (ke3 (vZ n l j hl hj))
    refine ⟨hv.1, hv.2.1, hv.2.2, ?_⟩
    rcases kl9 j with h9 | h9
    · exact .inl h9
    · right
      have e := vZ n l (j - 1) hl (by omega)
      have e2 := vZ n l j hl hj
      rw [show j = j - 1 + 1 by omega] at e2
      have := iW _ h2 (j - 1) _ _ e e2
      rw [show j - 1 + 1 = j by omega] at this
      exact this
def kB (l : List Int) (n : Nat) : List Int := if gK l n = true then l else []
def qA (l : List Int) (n : Nat) : Nat := if gK l n = true then n else 0
theorem k0k {l : List Int} {n : Nat} (h : gK l n = true) : kB l n = l ∧ qA l n = n := ⟨if_pos h, if_pos h⟩
theorem u9n {l : List Int} {n : Nat} (h : gK l n = false) : kB l n = [] ∧ qA l n = 0 := by unfold kB qA; rw [h]; exact ⟨rfl, rfl⟩
theorem qC {l : List Int} {n : Nat} (hl : l.length = n * 2) : (kB l n).length = qA l n * 2 := by
  unfold kB qA; split
  · exact hl
  · rfl
theorem uQ {l : List Int} {n : Nat} (hl : l.length = n * 2) : cB (qX (kB l n)) := by
  cases h : gK l n with
  | true => rw [(k0k h).1]; exact ((aI hl).1 h).2
  | false => rw [(u9n h).1]; trivial
theorem lU {l : List Int} {n : Nat} : qA l n ≤ 64 ∧ qA l n ≤ n := by
  unfold qA; split
  · rename_i h; exact ⟨of_decide_eq_true (Bool.and_eq_true_iff.1 h).1, kc4 _⟩
  · exact ⟨ke2 _, ke2 _⟩
/-! spans in order, and joined -/
theorem sE {n : Nat} {l : List Int} (h : l.length = n * 2) {j : Nat} (hj : j < n) : (qX l)[j]'(by rw [uF h]; exact hj) = (ka1 l (j * 2) 0, ka1 l (j * 2 + 1) 0) := by
  have := vZ n l j h hj
  rw [ka7 (by rw [uF h]; exact hj)] at this
  exact Option.some.inj this
def RG (l : List Int) (n : Nat) : Prop := ∀ j, j < n → 0 ≤ ka1 l (j * 2) 0 ∧ ka1 l (j * 2) 0 ≤ ka1 l (j * 2 + 1) 0 ∧ ka1 l (j * 2 + 1) 0 ≤ 2147483647
theorem RG.v {l : List Int} {n : Nat} (hl : l.length = n * 2) (h : RG l n) : ∀ p ∈ qX l, dW p := fun p hp => by
  obtain ⟨j, hj, rfl⟩ := (yO hl).1 hp
  exact h j hj
theorem RG.of {l : List Int} {n : Nat} (hl : l.length = n * 2) (h : ∀ p ∈ qX l, dW p) : RG l n := fun j hj => h _ ((yO hl).2 ⟨j, hj, rfl⟩)
def stP (s : List Sp) : List Sp := s.mergeSort fun a b => decide (a.1 ≤ b.1)
theorem fO (s : List Sp) : (stP s).Perm s := List.mergeSort_perm _ _
theorem k5i (s : List Sp) : srP (stP s) := by
  have h := List.pairwise_mergeSort (le := fun (x y : Sp) => decide (x.1 ≤ y.1)) (fun a b c h1 h2 => decide_eq_true (by have := of_decide_eq_true h1; have := of_decide_eq_true h2; omega)) (fun a b => by
    rw [Bool.or_eq_true]
    rcases Int.le_total a.1 b.1 with h | h
    · exact .inl (decide_eq_true h)
    · exact .inr (decide_eq_true h)) s
  exact h.imp fun h => of_decide_eq_true h
def mkP (s : List Sp) : List Sp := jnP (stP s)
theorem k73 {s : List Sp} (hv : ∀ p ∈ s, dW p) : cB (mkP s) ∧ (∀ z, cH (mkP s) z ↔ cH s z) ∧ (mkP s).length ≤ s.length := by
  obtain ⟨h1, h2, h3⟩ := k7l (s := stP s) (fun p hp => hv p ((fO s).mem_iff.1 hp)) (k5i s)
  exact ⟨h1, fun z => (h2 z).trans (xN (fO s) z), by rw [(fO s).length_eq] at h3; exact h3⟩
theorem k48 {s t : List Sp} (hv : ∀ p ∈ s, dW p) (h : t.Perm s) (ht : srP t) : jnP t = mkP s :=
  (u22 ((fO s).trans h.symm) (fun p hp => hv p ((fO s).mem_iff.1 hp)) (k5i s) ht).symm
structure SI (l : List Int) (i : Nat) (o : List Int) : Prop where
  len : o.length = i * 2
  perm : (qX o).Perm (ka5 i (qX l))
  sr : srP (qX o)
theorem SI.zero (l : List Int) : SI l 0 [] := ⟨rfl, List.Perm.refl _, List.Pairwise.nil⟩
theorem SI.rg {l o : List Int} {n i : Nat} (h : SI l i o) (hl : l.length = n * 2) (hi : i ≤ n) (hr : RG l n) : RG o i :=
  RG.of h.len fun p hp => hr.v hl p (kh2 (h.perm.mem_iff.1 hp))
theorem sI {s : List Sp} (h : srP s) {i j : Nat} {p q : Sp} (hij : i ≤ j) (hp : s[i]? = some p) (hq : s[j]? = some q) : p.1 ≤ q.1 := by
  obtain ⟨h1, rfl⟩ := List.getElem?_eq_some_iff.1 hp
  obtain ⟨h2, rfl⟩ := List.getElem?_eq_some_iff.1 hq
  rcases kj0 i j with h9 | h9
  · exact List.pairwise_iff_getElem.1 h i j h1 h2 h9
  · have e : i = j := by omega
    subst e; exact kd7 _
theorem SI.step {l o q : List Int} {n i k : Nat} {a b : Int} (h : SI l i o) (hl : l.length = n * 2) (hi : i < n) (ha : a = ka1 l (i * 2) 0) (hb : b = ka1 l (i * 2 + 1) 0) (hk : k ≤ i) (h1 : ∀ j, k ≤ j → j < i → a < ka1 o (j * 2) 0) (h2 : k = 0 ∨ ka1 o ((k - 1) * 2) 0 ≤ a) (hq : q = ka5 (k * 2) o ++ [a, b] ++ ka3 (k * 2) o) : SI l (i + 1) q := by
  have e : qX q = ka5 k (qX o) ++ [(a, b)] ++ ka3 k (qX o) := by
    rw [hq, iU (n := k + 1) (by rw [ka6, kb1, h.len]; simp only [ka9, kb0]; omega), w8 (n := k) (by rw [kb1, h.len]; omega), k6b h.len hk, k6c h.len hk]
  refine ⟨?_, ?_, ?_⟩
  · rw [hq]; simp only [ka6, kb1, kb2, ka9, kb0, h.len]; omega
  · rw [e, yW hl hi, ← ha, ← hb, kd1]
    refine (List.Perm.append_left _ List.perm_append_comm).trans ?_
    rw [← kd1, kg6]
    exact h.perm.append_right _
  · have hg : ∀ j, j < i → (qX o)[j]? = some (ka1 o (j * 2) 0, ka1 o (j * 2 + 1) 0) := fun j hj => vZ i o j h.len hj
    rw [e, srP, kd1, List.pairwise_append]
    refine ⟨h.sr.sublist (List.take_sublist _ _), List.Pairwise.cons (fun x hx => ?_) (h.sr.sublist (List.drop_sublist _ _)), fun x hx y hy => ?_⟩
    · obtain ⟨j, hj, e2⟩ := List.mem_iff_getElem?.1 hx |>.elim fun j hj => (⟨j, (List.getElem?_eq_some_iff.1 hj).1, hj⟩ : ∃ j, j < (ka3 k (qX o)).length ∧ (ka3 k (qX o))[j]? = some x)
      rw [kb2, uF h.len] at hj
      rw [ke4, hg _ (by omega)] at e2
      cases e2
      have := h1 (k + j) (by omega) (by omega)
      show a ≤ _; omega
    · obtain ⟨j, hj⟩ := List.mem_iff_getElem?.1 hx
      have hj2 := (List.getElem?_eq_some_iff.1 hj).1
      rw [kb1, uF h.len] at hj2
      rw [List.getElem?_take, if_pos (by omega)] at hj
      have hxa : x.1 ≤ a := by
        rcases h2 with h2 | h2
        · omega
        · have := sI h.sr (show j ≤ k - 1 by omega) hj (hg (k - 1) (by omega))
          exact Int.le_trans this h2
      rcases List.mem_cons.1 (show y ∈ (a, b) :: ka3 k (qX o) from hy) with rfl | hy
      · exact hxa
      · obtain ⟨m, hm⟩ := List.mem_iff_getElem?.1 hy
        have hm2 := (List.getElem?_eq_some_iff.1 hm).1
        rw [kb2, uF h.len] at hm2
        rw [ke4, hg _ (by omega)] at hm
        cases hm
        have := h1 (k + m) (by omega) (by omega)
        show x.1 ≤ _; omega
theorem SI.all {l o : List Int} {n i : Nat} (h : SI l i o) (hl : l.length = n * 2) (hi : n ≤ i) : (qX o).Perm (qX l) := by
  have := h.perm
  rw [kb9 (by rw [uF hl]; exact hi)] at this
  exact this
def MG (o : List Int) (i : Nat) (k : Nat) (out : List Int) : Prop := out = fl ((ka5 i (qX o)).foldl lF []).reverse ∧ ((ka5 i (qX o)).foldl lF []).length = k
theorem MG.zero (o : List Int) : MG o 0 0 [] := ⟨rfl, rfl⟩
theorem MG.len {o out : List Int} {i k : Nat} (h : MG o i k out) : out.length = k * 2 := by rw [h.1, eT, kc1, h.2]
theorem u7y (r : List Sp) (l : Sp) (v : Int) : List.set (fl (r ++ [l])) (r.length * 2 + 1) v = fl (r ++ [(l.1, v)]) := by
  rw [iF, iF, ← eT r, List.set_append_right _ _ (by omega), show (fl r).length + 1 - (fl r).length = 1 by omega]; rfl
theorem u2e (r : List Sp) (l : Sp) : ka1 (fl (r ++ [l])) (r.length * 2 + 1) 0 = l.2 := by
  rw [iF, List.getD_eq_getElem?_getD, ← eT r, List.getElem?_append_right (by omega), show (fl r).length + 1 - (fl r).length = 1 by omega]; rfl
theorem MG.last {o out : List Int} {i k : Nat} (h : MG o i k out) (hk : 1 ≤ k) : ∃ l r, (ka5 i (qX o)).foldl lF [] = l :: r ∧ out = fl (r.reverse ++ [l]) ∧ r.length = k - 1 ∧ ka1 out ((k - 1) * 2 + 1) 0 = l.2 := by
  obtain ⟨h1, h2⟩ := h
  cases e : (ka5 i (qX o)).foldl lF [] with
  | nil => rw [e] at h2; simp at h2; omega
  | cons l r =>
    rw [e] at h1 h2
    rw [kf9] at h1
    have h3 : r.length = k - 1 := by simp at h2; omega
    refine ⟨l, r, rfl, h1, h3, ?_⟩
    rw [h1, ← h3, ← (kc1 : r.reverse.length = r.length)]; exact u2e _ _
theorem MG.next {o : List Int} {n i : Nat} (hl : o.length = n * 2) (hi : i < n) : (ka5 (i + 1) (qX o)).foldl lF [] = lF ((ka5 i (qX o)).foldl lF []) (ka1 o (i * 2) 0, ka1 o (i * 2 + 1) 0) := by
  rw [yW hl hi, List.foldl_append]; rfl
theorem MG.new {o out q : List Int} {n i k : Nat} {a b : Int} (h : MG o i k out) (hl : o.length = n * 2) (hi : i < n) (ha : a = ka1 o (i * 2) 0) (hb : b = ka1 o (i * 2 + 1) 0) (h2 : k = 0 ∨ ka1 out ((k - 1) * 2 + 1) 0 + 1 < a) (hq : q = out ++ [a, b]) : MG o (i + 1) (k + 1) q := by
  unfold MG
  rw [MG.next hl hi, ← ha, ← hb, hq]
  rcases kl9 k with h0 | h0
  · have h3 := h.2
    rw [h0] at h3
    have e := kd9 h3
    rw [h.1, e]; subst h0; exact ⟨rfl, rfl⟩
  · obtain ⟨l, r, e, e1, e2, e3⟩ := h.last h0
    rw [e]
    have h4 : l.2 + 1 < a := by
      rcases h2 with h2 | h2
      · omega
      · rw [e3] at h2; exact h2
    have e5 : lF (l :: r) (a, b) = (a, b) :: l :: r := by
      show (if a ≤ l.2 + 1 then _ else _) = _
      rw [if_neg (by omega)]
    rw [e5, e1]
    refine ⟨?_, by simp only [ka9]; omega⟩
    rw [kf9, kf9, iF (r.reverse ++ [l])]; rfl
theorem MG.join {o out q : List Int} {n i k : Nat} {a b v : Int} (h : MG o i k out) (hl : o.length = n * 2) (hi : i < n) (ha : a = ka1 o (i * 2) 0) (hb : b = ka1 o (i * 2 + 1) 0) (hk : 1 ≤ k) (h2 : a ≤ ka1 out ((k - 1) * 2 + 1) 0 + 1) (hv : v = max (ka1 out ((k - 1) * 2 + 1) 0) b) (hq : q = List.set out ((k - 1) * 2 + 1) v) : MG o (i + 1) k q := by
  unfold MG
  rw [MG.next hl hi, ← ha, ← hb, hq]
  obtain ⟨l, r, e, e1, e2, e3⟩ := h.last hk
  rw [e]
  rw [e3] at h2 hv
  have e5 : lF (l :: r) (a, b) = (l.1, max l.2 b) :: r := by
    show (if a ≤ l.2 + 1 then _ else _) = _
    rw [if_pos h2]
  rw [e5, e1, ← e2]
  refine ⟨?_, by simp only [ka9]; omega⟩
  rw [← (kc1 : r.reverse.length = r.length), u7y, kf9, hv]
theorem MG.fin {o out : List Int} {n i k : Nat} (h : MG o i k out) (hl : o.length = n * 2) (hi : n ≤ i) : out = fl (jnP (qX o)) ∧ (jnP (qX o)).length = k := by
  unfold MG at h
  rw [kb9 (by rw [uF hl]; exact hi)] at h
  refine ⟨h.1, ?_⟩
  unfold jnP jnR; rw [kc1]; exact h.2
theorem v12 : ∀ (s o : List Sp), (∀ p ∈ o, dW p) → (∀ p ∈ s, dW p) → ∀ p ∈ s.foldl lF o, 0 ≤ p.1 ∧ 0 ≤ p.2 ∧ p.2 ≤ 2147483647
  | [], o, h, _, p, hp => by have := h p hp; unfold dW at this; omega
  | x :: s, o, h, hs, p, hp => by
    refine v12 s (lF o x) (fun q hq => ?_) (fun q hq => hs q (kc0 _ hq)) p hp
    have hx := hs x (kb6 ..)
    cases o with
    | nil => rw [List.mem_singleton.1 (show q ∈ [x] from hq)]; exact hx
    | cons l r =>
      have hl := h l (kb6 ..)
      have hq : q ∈ (if x.1 ≤ l.2 + 1 then (l.1, max l.2 x.2) :: r else x :: l :: r) := hq
      unfold dW at hx hl
      split at hq
      · rcases List.mem_cons.1 hq with rfl | hq
        · exact ⟨hl.1, by show l.1 ≤ max l.2 x.2; omega, by show max l.2 x.2 ≤ _; omega⟩
        · exact h q (kc0 _ hq)
      · rcases List.mem_cons.1 hq with rfl | hq
        · exact hx
        · exact h q hq
theorem MG.hi {o out : List Int} {n i k : Nat} (h : MG o i k out) (hl : o.length = n * 2) (hr : RG o n) (hk : 1 ≤ k) : 0 ≤ ka1 out ((k - 1) * 2 + 1) 0 ∧ ka1 out ((k - 1) * 2 + 1) 0 ≤ 2147483647 := by
  obtain ⟨l, r, e, _, _, e3⟩ := h.last hk
  rw [e3]
  have := v12 (ka5 i (qX o)) [] (fun _ h => (by cases h)) (fun p hp => hr.v hl p (kh2 hp)) l (by rw [e]; exact kb6 ..)
  exact ⟨this.2.1, this.2.2⟩
/-! the functions on lists -/
def rgE (l : List Int) (j : Nat) : Bool := decide (0 ≤ ka1 l (j * 2) 0 ∧ ka1 l (j * 2) 0 ≤ ka1 l (j * 2 + 1) 0 ∧ ka1 l (j * 2 + 1) 0 ≤ 2147483647)
def rgB (l : List Int) (n : Nat) : Bool := (List.range n).all (rgE l)
theorem u9x {l : List Int} {n : Nat} (h : ∀ j, j < n → rgE l j = true) : rgB l n = true := List.all_eq_true.2 fun j hj => h j (List.mem_range.1 hj)
theorem u6m {l : List Int} {n k : Nat} (hk : k < n) (h : rgE l k = false) : rgB l n = false := by
  cases hb : rgB l n with
  | false => rfl
  | true => have := List.all_eq_true.1 hb k (List.mem_range.2 hk); rw [h] at this; cases this
theorem lB {l : List Int} {n : Nat} : rgB l n = true ↔ RG l n := ⟨fun h j hj => of_decide_eq_true (List.all_eq_true.1 h j (List.mem_range.2 hj)), fun h => u9x fun j hj => decide_eq_true (h j hj)⟩
def wI (l : List Int) : List Int := fl (mkP (qX l))
def mK (l : List Int) : Nat := (mkP (qX l)).length
theorem k14 (l : List Int) : (wI l).length = mK l * 2 := eT _
theorem k7n {l : List Int} {n : Nat} (hl : l.length = n * 2) (hr : RG l n) : mK l ≤ n := by
  have := (k73 (hr.v hl)).2.2
  rw [uF hl] at this; exact this
theorem u7g {l o out : List Int} {n k : Nat} (hl : l.length = n * 2) (hr : RG l n) (ho : o.length = n * 2) (hp : (qX o).Perm (qX l)) (hs : srP (qX o)) (h : MG o n k out) : out = wI l ∧ mK l = k := by
  obtain ⟨h1, h2⟩ := h.fin ho (kc4 _)
  rw [k48 (hr.v hl) hp hs] at h1 h2
  exact ⟨h1, h2⟩
def o5 (l : List Int) (n : Nat) : Int := if rgB l n = true then (if mK l ≤ 64 then 0 else 3) else 2
def eX (l : List Int) (n : Nat) : List Int := if rgB l n = true ∧ mK l ≤ 64 then wI l else []
def vM (l : List Int) (n : Nat) : Nat := if rgB l n = true ∧ mK l ≤ 64 then mK l else 0
theorem sT {l : List Int} {n : Nat} (h : rgB l n = false) : o5 l n = 2 ∧ eX l n = [] ∧ vM l n = 0 := by
  unfold o5 eX vM; rw [h]
  exact ⟨if_neg ki2, if_neg fun h => absurd h.1 ki2, if_neg fun h => absurd h.1 ki2⟩
theorem k74 {l : List Int} {n : Nat} (h : rgB l n = true) (h2 : 64 < mK l) : o5 l n = 3 ∧ eX l n = [] ∧ vM l n = 0 := by
  unfold o5 eX vM
  rw [if_pos h]
  exact ⟨if_neg (by omega), if_neg fun h => by omega, if_neg fun h => by omega⟩
theorem sS {l : List Int} {n : Nat} (h : rgB l n = true) (h2 : mK l ≤ 64) : o5 l n = 0 ∧ eX l n = wI l ∧ vM l n = mK l := by
  unfold o5 eX vM
  rw [if_pos h]
  exact ⟨if_pos h2, if_pos ⟨h, h2⟩, if_pos ⟨h, h2⟩⟩
theorem i0 (l : List Int) (n : Nat) : (eX l n).length = vM l n * 2 := by
  unfold eX vM; split
  · exact k14 l
  · rfl
theorem nU (l : List Int) (n : Nat) : (0 ≤ o5 l n ∧ o5 l n ≤ 3) ∧ vM l n ≤ 64 := by
  constructor
  · unfold o5; (repeat' split) <;> omega
  · unfold vM; split <;> omega
theorem k76 {l : List Int} {n : Nat} (hl : l.length = n * 2) : cB (qX (eX l n)) := by
  unfold eX; split
  · rename_i h; unfold wI; rw [hY]; exact (k73 ((lB.1 h.1).v hl)).1
  · trivial
theorem u78 {l : List Int} {n : Nat} (hl : l.length = n * 2) : gK (eX l n) (vM l n) = true := (aI (i0 l n)).2 ⟨(nU l n).2, k76 hl⟩
/-! members -/
def bM (l : List Int) (x : Int) : Bool := (qX l).any fun p => decide (p.1 ≤ x ∧ x ≤ p.2)
theorem vJ {l : List Int} {x : Int} : bM l x = true ↔ cH (qX l) x := by
  unfold bM cH
  rw [kh3]
  constructor
  · rintro ⟨p, hp, h⟩; exact ⟨p, hp, of_decide_eq_true h⟩
  · rintro ⟨p, hp, h⟩; exact ⟨p, hp, decide_eq_true h⟩
theorem k7x {l : List Int} {n k : Nat} {x : Int} (hl : l.length = n * 2) (hk : k < n) (h : ka1 l (k * 2) 0 ≤ x ∧ x ≤ ka1 l (k * 2 + 1) 0) : bM l x = true := vJ.2 ⟨_, (yO hl).2 ⟨k, hk, rfl⟩, h⟩
theorem v1d {l : List Int} {n : Nat} {x : Int} (hl : l.length = n * 2) (h : ∀ j, j < n → ¬ (ka1 l (j * 2) 0 ≤ x ∧ x ≤ ka1 l (j * 2 + 1) 0)) : bM l x = false := by
  cases hb : bM l x with
  | false => rfl
  | true =>
    obtain ⟨p, hp, h1⟩ := vJ.1 hb
    obtain ⟨j, hj, rfl⟩ := (yO hl).1 hp
    exact absurd h1 (h j hj)
/-! inside -/
def coB (b : List Int) (p q : Int) : Bool := (qX b).any (ctE (p, q))
theorem v4m {b : List Int} {m k : Nat} {p q : Int} (hl : b.length = m * 2) (hk : k < m) (h : ka1 b (k * 2) 0 ≤ p ∧ q ≤ ka1 b (k * 2 + 1) 0) : coB b p q = true := by
  unfold coB
  rw [kh3]
  exact ⟨_, (yO hl).2 ⟨k, hk, rfl⟩, decide_eq_true h⟩
theorem v4n {b : List Int} {m : Nat} {p q : Int} (hl : b.length = m * 2) (h : ∀ j, j < m → ¬ (ka1 b (j * 2) 0 ≤ p ∧ q ≤ ka1 b (j * 2 + 1) 0)) : coB b p q = false := by
  cases hb : coB b p q with
  | false => rfl
  | true =>
    unfold coB at hb
    rw [kh3] at hb
    obtain ⟨r, hr, h1⟩ := hb
    obtain ⟨j, hj, rfl⟩ := (yO hl).1 hr
    exact absurd (of_decide_eq_true h1) (h j hj)
def xZ (a b : List Int) : Bool := inP (qX a) (qX b)
theorem v1b {a b : List Int} {n : Nat} (hl : a.length = n * 2) (h : ∀ j, j < n → coB b (ka1 a (j * 2) 0) (ka1 a (j * 2 + 1) 0) = true) : xZ a b = true := by
  unfold xZ inP
  rw [ke8]
  intro p hp
  obtain ⟨j, hj, rfl⟩ := (yO hl).1 hp
  exact h j hj
theorem v1c {a b : List Int} {n k : Nat} (hl : a.length = n * 2) (hk : k < n) (h : coB b (ka1 a (k * 2) 0) (ka1 a (k * 2 + 1) 0) = false) : xZ a b = false := by
  cases hb : xZ a b with
  | false => rfl
  | true =>
    unfold xZ inP at hb
    rw [ke8] at hb
    have := hb _ ((yO hl).2 ⟨k, hk, rfl⟩)
    exact absurd (h.symm.trans this) (by decide)
/-! the nearest -/
def NR (n : Int) (l : List Int) (i : Nat) (b : Int) (f : Bool) : Prop := nrP n (ka5 i (qX l)) none = (if f = true then some b else none) ∧ (f = false → b = 0)
theorem mG (n : Int) (p : Sp) : ∀ (s : List Sp) (o : Option Int), nrP n (s ++ [p]) o = match nrP n s o with
    | none => some (iH n p)
    | some v => if aQ (iH n p) n < aQ v n then some (iH n p) else some v
  | [], o => rfl
  | q :: s, o => mG n p s _
theorem NR.zero (n : Int) (l : List Int) : NR n l 0 0 false := ⟨rfl, fun _ => rfl⟩
theorem NR.first {n : Int} {l : List Int} {i m : Nat} {b v : Int} (h : NR n l i b false) (hl : l.length = m * 2) (hi : i < m) (hv : v = iH n (ka1 l (i * 2) 0, ka1 l (i * 2 + 1) 0)) : NR n l (i + 1) v true := by
  refine ⟨?_, fun h => by cases h⟩
  rw [yW hl hi, mG, h.1, hv]; rfl
theorem NR.near {n : Int} {l : List Int} {i m : Nat} {b v : Int} (h : NR n l i b true) (hl : l.length = m * 2) (hi : i < m) (hv : v = iH n (ka1 l (i * 2) 0, ka1 l (i * 2 + 1) 0)) (hd : aQ v n < aQ b n) : NR n l (i + 1) v true := by
  refine ⟨?_, fun h => by cases h⟩
  rw [yW hl hi, mG, h.1, ← hv]
  show (if aQ v n < aQ b n then some v else some b) = some v
  rw [if_pos hd]
theorem NR.far {n : Int} {l : List Int} {i m : Nat} {b v : Int} (h : NR n l i b true) (hl : l.length = m * 2) (hi : i < m) (hd : ¬ aQ v n < aQ b n) (hv : v = iH n (ka1 l (i * 2) 0, ka1 l (i * 2 + 1) 0)) : NR n l (i + 1) b true := by
  refine ⟨?_, fun h => by cases h⟩
  rw [yW hl hi, mG, h.1, ← hv]
  show (if aQ v n < aQ b n then some v else some b) = some b
  rw [if_neg hd]
def vG (n : Int) (l : List Int) : Int := (nrP n (qX l) none).getD 0
def nrF (n : Int) (l : List Int) : Bool := (nrP n (qX l) none).isSome
theorem NR.fin {n : Int} {l : List Int} {i m : Nat} {b : Int} {f : Bool} (h : NR n l i b f) (hl : l.length = m * 2) (hi : m ≤ i) : vG n l = b ∧ nrF n l = f := by
  have h1 := h.1
  rw [kb9 (by rw [uF hl]; exact hi)] at h1
  unfold vG nrF
  rw [h1]
  cases f with
  | true => exact ⟨rfl, rfl⟩
  | false => exact ⟨(h.2 rfl).symm, rfl⟩
/-! intersections -/
def uN (a b : List Int) : List Int := fl (ka5 64 (aU (qX a) (qX b)))
def qT (a b : List Int) : Nat := (ka5 64 (aU (qX a) (qX b))).length
theorem u4 (a b : List Int) : (uN a b).length = qT a b * 2 := eT _
theorem aG (a b : List Int) : qT a b ≤ 64 := by unfold qT; rw [kb1]; omega
structure IX (a b : List Int) (i j k : Nat) (out : List Int) : Prop where
  ex : ∃ q, out = fl q ∧ q.length = k ∧ q ++ aU (ka3 i (qX a)) (ka3 j (qX b)) = aU (qX a) (qX b)
theorem IX.zero (a b : List Int) : IX a b 0 0 0 [] := ⟨[], rfl, rfl, rfl⟩
theorem IX.len {a b out : List Int} {i j k : Nat} (h : IX a b i j k out) : out.length = k * 2 := by
  obtain ⟨q, rfl, rfl, _⟩ := h; exact eT q
theorem nS : ∀ (k : Nat) {s : List Sp}, cB s → cB (ka3 k s)
  | 0, _, h => h
  | k + 1, [], _ => trivial
  | k + 1, p :: s, h => nS k h.2.2
theorem IX.put {a b out o : List Int} {n m i j k : Nat} {u v : Int} (h : IX a b i j k out) (ha : a.length = n * 2) (hb : b.length = m * 2) (oa : cB (qX a)) (ob : cB (qX b)) (hi : i < n) (hj : j < m) (hu : u = max (ka1 a (i * 2) 0) (ka1 b (j * 2) 0)) (hv : v = min (ka1 a (i * 2 + 1) 0) (ka1 b (j * 2 + 1) 0)) (ho : (u ≤ v ∧ o = out ++ [u, v]) ∨ (¬ u ≤ v ∧ o = out)) :
    (ka1 a (i * 2 + 1) 0 < ka1 b (j * 2 + 1) 0 → IX a b (i + 1) j (if u ≤ v then k + 1 else k) o) ∧ (¬ ka1 a (i * 2 + 1) 0 < ka1 b (j * 2 + 1) 0 → IX a b i (j + 1) (if u ≤ v then k + 1 else k) o) := by
  obtain ⟨q, e1, e2, e3⟩ := h
  rw [cI ha hi, cI hb hj] at e3
  have oa2 := nS i oa
  have ob2 := nS j ob
  rw [cI ha hi] at oa2
  rw [cI hb hj] at ob2
  have hE : mL (ka1 a (i * 2) 0, ka1 a (i * 2 + 1) 0) (ka1 b (j * 2) 0, ka1 b (j * 2 + 1) 0) = if u ≤ v then [(u, v)] else [] := by unfold mL; rw [hu, hv]
  have hq : o = fl (q ++ (if u ≤ v then [(u, v)] else [])) ∧ (q ++ (if u ≤ v then [(u, v)] else [])).length = if u ≤ v then k + 1 else k := by
    rcases ho with ⟨h1, h2⟩ | ⟨h1, h2⟩
    · rw [if_pos h1, if_pos h1, h2, e1, iF, ka6, e2]; exact ⟨rfl, rfl⟩
    · rw [if_neg h1, if_neg h1, h2, e1, kd6]; exact ⟨rfl, e2⟩
  constructor
  · intro hlt
    rw [k33 ob2 hlt, hE, ← cI hb hj, ← kd1] at e3
    exact ⟨_, hq.1, hq.2, e3⟩
  · intro hlt
    rw [xS oa2 hlt, hE, ← cI ha hi, ← kd1] at e3
    exact ⟨_, hq.1, hq.2, e3⟩
theorem IX.fin {a b out : List Int} {n m i j k : Nat} (h : IX a b i j k out) (ha : a.length = n * 2) (hb : b.length = m * 2) (hk : k ≤ 64) (hf : n ≤ i ∨ m ≤ j ∨ k = 64) : out = uN a b ∧ qT a b = k := by
  obtain ⟨q, e1, e2, e3⟩ := h
  have e4 : ka5 64 (aU (qX a) (qX b)) = q := by
    rw [← e3]
    rcases kj0 k 64 with h9 | h9
    · have e5 : aU (ka3 i (qX a)) (ka3 j (qX b)) = [] := by
        rcases hf with hf | hf | hf
        · rw [kk6 (by rw [uF ha]; exact hf)]; rfl
        · rw [show ka3 j (qX b) = [] from kk6 (by rw [uF hb]; exact hf)]; exact lG _
        · omega
      rw [e5, kd6, kb9 (by omega)]
    · exact km2 (by omega)
  unfold uN qT
  rw [e4]; exact ⟨e1, e2⟩
def AL (a b : List Int) (i k : Nat) (out : List Int) : Prop := out = fl (aU (ka5 i (qX a)) (qX b)) ∧ (aU (ka5 i (qX a)) (qX b)).length = k
def AJ (a b : List Int) (i j k : Nat) (out : List Int) : Prop := out = fl (aU (ka5 i (qX a)) (qX b) ++ wJ (ka1 a (i * 2) 0, ka1 a (i * 2 + 1) 0) (ka5 j (qX b))) ∧ (aU (ka5 i (qX a)) (qX b) ++ wJ (ka1 a (i * 2) 0, ka1 a (i * 2 + 1) 0) (ka5 j (qX b))).length = k
theorem AL.zero (a b : List Int) : AL a b 0 0 [] := ⟨rfl, rfl⟩
theorem AL.in {a b out : List Int} {i k : Nat} (h : AL a b i k out) : AJ a b i 0 k out := by
  unfold AJ
  rw [show wJ (ka1 a (i * 2) 0, ka1 a (i * 2 + 1) 0) (ka5 0 (qX b)) = [] from rfl, kd6]; exact h
theorem xT (p : Sp) (s : List Sp) (q : Sp) : wJ p (s ++ [q]) = wJ p s ++ mL p q := by unfold wJ; rw [kl0]; simp
theorem k7q (s : List Sp) (p : Sp) (b : List Sp) : aU (s ++ [p]) b = aU s b ++ wJ p b := by unfold aU; rw [kl0]; simp
theorem AJ.y {a b out o : List Int} {m i j k : Nat} {u v : Int} (h : AJ a b i j k out) (hb : b.length = m * 2) (hj : j < m) (hu : u = max (ka1 a (i * 2) 0) (ka1 b (j * 2) 0)) (hv : v = min (ka1 a (i * 2 + 1) 0) (ka1 b (j * 2 + 1) 0)) (h1 : u ≤ v) (ho : o = out ++ [u, v]) : AJ a b i (j + 1) (k + 1) o := by
  have hE : mL (ka1 a (i * 2) 0, ka1 a (i * 2 + 1) 0) (ka1 b (j * 2) 0, ka1 b (j * 2 + 1) 0) = [(u, v)] := by
    unfold mL; rw [← hu, ← hv, if_pos h1]
  unfold AJ
  rw [yW hb hj, xT, hE, ← kd1, iF, ka6, ← h.1, h.2, ho]; exact ⟨rfl, rfl⟩
theorem AJ.n {a b out : List Int} {m i j k : Nat} (h : AJ a b i j k out) (hb : b.length = m * 2) (hj : j < m) (h1 : ¬ max (ka1 a (i * 2) 0) (ka1 b (j * 2) 0) ≤ min (ka1 a (i * 2 + 1) 0) (ka1 b (j * 2 + 1) 0)) : AJ a b i (j + 1) k out := by
  have hE : mL (ka1 a (i * 2) 0, ka1 a (i * 2 + 1) 0) (ka1 b (j * 2) 0, ka1 b (j * 2 + 1) 0) = [] := by
    unfold mL; rw [if_neg h1]
  unfold AJ
  rw [yW hb hj, xT, hE, kd6]; exact h
theorem AJ.out {a b out : List Int} {n m i j k : Nat} (h : AJ a b i j k out) (ha : a.length = n * 2) (hi : i < n) (hb : b.length = m * 2) (hj : m ≤ j) : AL a b (i + 1) k out := by
  unfold AJ at h
  rw [kb9 (l := qX b) (by rw [uF hb]; exact hj), ← k7q, ← yW ha hi] at h
  exact h
theorem AL.fin {a b out : List Int} {n i k : Nat} (h : AL a b i k out) (ha : a.length = n * 2) (hi : n ≤ i) : out = fl (aU (qX a) (qX b)) ∧ (aU (qX a) (qX b)).length = k := by
  unfold AL at h
  rw [kb9 (by rw [uF ha]; exact hi)] at h; exact h
def alS (a b : List Int) : List Int := fl (aU (qX a) (qX b))
def iK (a b : List Int) : Nat := (aU (qX a) (qX b)).length
theorem u8p (a b : List Int) : (alS a b).length = iK a b * 2 := eT _
theorem k38 : ∀ (k : Nat) (s : List Sp), fl (ka5 k s) = ka5 (k * 2) (fl s)
  | 0, s => by rw [Nat.zero_mul]; rfl
  | k + 1, [] => by simp [fl]
  | k + 1, p :: s => by
    show p.1 :: p.2 :: fl (ka5 k s) = _
    rw [k38 k s, show (k + 1) * 2 = k * 2 + 1 + 1 by omega]; rfl
theorem u4p {a b : List Int} {k : Nat} (hk : k = min (iK a b) 64) : uN a b = ka5 (k * 2) (alS a b) ∧ qT a b = k := by
  unfold uN qT alS
  rw [kb1, ← k38, hk]
  refine ⟨?_, by unfold iK; omega⟩
  congr 1
  unfold iK
  rcases kj0 (aU (qX a) (qX b)).length 64 with h | h
  · rw [Nat.min_eq_left (by omega), kb9 (by omega), kb9 (kc4 _)]
  · rw [Nat.min_eq_right h]
theorem k7y {o : List Int} {k n : Nat} {p : Int} (h : ∀ j, k ≤ j → j < n → p < ka1 o (j * 2) 0) (h1 : p < ka1 o ((k - 1) * 2) 0) (hk : 1 ≤ k) : ∀ j, k - 1 ≤ j → j < n → p < ka1 o (j * 2) 0 := fun j hj hn => by
  rcases kj0 j k with h7 | h7
  · rw [show j = k - 1 by omega]; exact h1
  · exact h j h7 hn
theorem k1t {l : List Int} {k : Nat} (ha : ∀ j, j < k → vaE l j = true) (h : 1 ≤ k) : 0 ≤ ka1 l ((k - 1) * 2 + 1) 0 ∧ ka1 l ((k - 1) * 2 + 1) 0 ≤ 2147483647 := by
  have := of_decide_eq_true (ha (k - 1) (by omega)); omega
theorem u9m {l : List Int} {n : Nat} (hl : l.length = n * 2) : RG (kB l n) (qA l n) := RG.of (qC hl) (dC (uQ hl))
theorem IX.ly {a b out : List Int} {n m i j k : Nat} {u v : Int} (h : IX a b i j k out) (ha : a.length = n * 2) (hb : b.length = m * 2) (oa : cB (qX a)) (ob : cB (qX b)) (hi : i < n) (hj : j < m) (hu : u = max (ka1 a (i * 2) 0) (ka1 b (j * 2) 0)) (hv : v = min (ka1 a (i * 2 + 1) 0) (ka1 b (j * 2 + 1) 0)) (h1 : u ≤ v) (h2 : ka1 a (i * 2 + 1) 0 < ka1 b (j * 2 + 1) 0) : IX a b (i + 1) j (k + 1) (out ++ [u, v]) := by
  have h9 := (h.put ha hb oa ob hi hj hu hv (.inl ⟨h1, rfl⟩)).1 h2
  rw [if_pos h1] at h9; exact h9
theorem IX.ln {a b out : List Int} {n m i j k : Nat} (h : IX a b i j k out) (ha : a.length = n * 2) (hb : b.length = m * 2) (oa : cB (qX a)) (ob : cB (qX b)) (hi : i < n) (hj : j < m) (h1 : ¬ max (ka1 a (i * 2) 0) (ka1 b (j * 2) 0) ≤ min (ka1 a (i * 2 + 1) 0) (ka1 b (j * 2 + 1) 0)) (h2 : ka1 a (i * 2 + 1) 0 < ka1 b (j * 2 + 1) 0) : IX a b (i + 1) j k out := by
  have h9 := (h.put ha hb oa ob hi hj rfl rfl (.inr ⟨h1, rfl⟩)).1 h2
  rw [if_neg h1] at h9; exact h9
theorem IX.ry {a b out : List Int} {n m i j k : Nat} {u v : Int} (h : IX a b i j k out) (ha : a.length = n * 2) (hb : b.length = m * 2) (oa : cB (qX a)) (ob : cB (qX b)) (hi : i < n) (hj : j < m) (hu : u = max (ka1 a (i * 2) 0) (ka1 b (j * 2) 0)) (hv : v = min (ka1 a (i * 2 + 1) 0) (ka1 b (j * 2 + 1) 0)) (h1 : u ≤ v) (h2 : ¬ ka1 a (i * 2 + 1) 0 < ka1 b (j * 2 + 1) 0) : IX a b i (j + 1) (k + 1) (out ++ [u, v]) := by
  have h9 := (h.put ha hb oa ob hi hj hu hv (.inl ⟨h1, rfl⟩)).2 h2
  rw [if_pos h1] at h9; exact h9
theorem IX.rn {a b out : List Int} {n m i j k : Nat} (h : IX a b i j k out) (ha : a.length = n * 2) (hb : b.length = m * 2) (oa : cB (qX a)) (ob : cB (qX b)) (hi : i < n) (hj : j < m) (h1 : ¬ max (ka1 a (i * 2) 0) (ka1 b (j * 2) 0) ≤ min (ka1 a (i * 2 + 1) 0) (ka1 b (j * 2 + 1) 0)) (h2 : ¬ ka1 a (i * 2 + 1) 0 < ka1 b (j * 2 + 1) 0) : IX a b i (j + 1) k out := by
  have h9 := (h.put ha hb oa ob hi hj rfl rfl (.inr ⟨h1, rfl⟩)).2 h2
  rw [if_neg h1] at h9; exact h9
theorem dp1 {A : List Int} {i n : Nat} (h : A.length = n * 2) : dI .i64 (ka3 ((i + 1) * 2) A) = dI .i64 (ka5 ((n - i - 1) * 2) (ka3 2 (ka3 (i * 2) A))) := by
  rw [List.drop_drop, kb9 (by rw [kb2]; omega), show i * 2 + 2 = (i + 1) * 2 by omega]
/-! the first span that holds another one -/
def mP (b : List Int) (u v : Int) : Nat → Int
  | 0 => -1
  | k + 1 => if 0 ≤ mP b u v k then mP b u v k else if ka1 b (k * 2) 0 ≤ u ∧ v ≤ ka1 b (k * 2 + 1) 0 then (k : Int) else -1
theorem k3h {b : List Int} {u v : Int} {k : Nat} (h : mP b u v k = -1) (h2 : ¬ (ka1 b (k * 2) 0 ≤ u ∧ v ≤ ka1 b (k * 2 + 1) 0)) : mP b u v (k + 1) = -1 := by
  show (if 0 ≤ mP b u v k then _ else _) = _
  rw [if_neg (by omega), if_neg h2]
theorem tQ {b : List Int} {u v : Int} {k : Nat} (h : mP b u v k = -1) (h2 : ka1 b (k * 2) 0 ≤ u ∧ v ≤ ka1 b (k * 2 + 1) 0) : ∀ n, k < n → mP b u v n = (k : Int)
  | n + 1, hn => by
    by_cases hk : k = n
    · subst hk
      show (if 0 ≤ mP b u v k then _ else _) = _
      rw [if_neg (by omega), if_pos h2]
    · have := tQ h h2 n (by omega)
      show (if 0 ≤ mP b u v n then _ else _) = _
      rw [if_pos (by omega)]; exact this
theorem tP (b : List Int) (u v : Int) : ∀ n, (mP b u v n = -1 ∧ ∀ j, j < n → ¬ (ka1 b (j * 2) 0 ≤ u ∧ v ≤ ka1 b (j * 2 + 1) 0)) ∨ ∃ k, k < n ∧ mP b u v n = (k : Int) ∧ ka1 b (k * 2) 0 ≤ u ∧ v ≤ ka1 b (k * 2 + 1) 0
  | 0 => .inl ⟨rfl, fun j hj => absurd hj (Nat.not_lt_zero j)⟩
  | n + 1 => by
    rcases tP b u v n with ⟨h, h2⟩ | ⟨k, h1, h2, h3⟩
    · by_cases h9 : ka1 b (n * 2) 0 ≤ u ∧ v ≤ ka1 b (n * 2 + 1) 0
      · exact .inr ⟨n, by omega, tQ h h9 _ (by omega), h9⟩
      · exact .inl ⟨k3h h h9, fun j hj => (Nat.lt_succ_iff_lt_or_eq.1 hj).elim (h2 j) (fun e => by subst e; exact h9)⟩
    · refine .inr ⟨k, by omega, ?_, h3⟩
      show (if 0 ≤ mP b u v n then _ else _) = _
      rw [if_pos (by omega)]; exact h2
theorem v1z {b : List Int} {u v : Int} {m : Nat} (hb : b.length = m * 2) (h : 0 ≤ mP b u v m) : coB b u v = true := by
  rcases tP b u v m with ⟨h1, _⟩ | ⟨k, h1, _, h3⟩
  · omega
  · exact v4m hb h1 h3
theorem v20 {b : List Int} {u v : Int} {m : Nat} (hb : b.length = m * 2) (h : ¬ 0 ≤ mP b u v m) : coB b u v = false := by
  rcases tP b u v m with ⟨_, h1⟩ | ⟨k, _, h1, _⟩
  · exact v4n hb h1
  · omega
def CJ (b : List Int) (u v : Int) (j : Nat) (f : Bool) : Prop := f = (ka5 j (qX b)).any (ctE (u, v))
theorem CJ.zero (b : List Int) (u v : Int) : CJ b u v 0 false := rfl
theorem CJ.yes {b : List Int} {u v : Int} {j m : Nat} (h : CJ b u v j false) (hb : b.length = m * 2) (hj : j < m) (h1 : ka1 b (j * 2) 0 ≤ u ∧ v ≤ ka1 b (j * 2 + 1) 0) : CJ b u v (j + 1) true := by
  unfold CJ at *; rw [yW hb hj, km3, ← h]
  show true = (decide _ || false)
  rw [decide_eq_true (show ka1 b (j * 2) 0 ≤ u ∧ v ≤ ka1 b (j * 2 + 1) 0 from h1)]; rfl
theorem CJ.no {b : List Int} {u v : Int} {j m : Nat} (h : CJ b u v j false) (hb : b.length = m * 2) (hj : j < m) (h1 : ¬ (ka1 b (j * 2) 0 ≤ u ∧ v ≤ ka1 b (j * 2 + 1) 0)) : CJ b u v (j + 1) false := by
  unfold CJ at *; rw [yW hb hj, km3, ← h]
  show false = (decide _ || false)
  rw [decide_eq_false (show ¬ (ka1 b (j * 2) 0 ≤ u ∧ v ≤ ka1 b (j * 2 + 1) 0) from h1)]; rfl
theorem CJ.fin {b : List Int} {u v : Int} {j m : Nat} {f : Bool} (h : CJ b u v j f) (hb : b.length = m * 2) (hj : m ≤ j) : coB b u v = f := by
  unfold CJ at h; rw [kb9 (by rw [uF hb]; exact hj)] at h; exact h.symm
theorem tN {a b : Int} : 0 ≤ aQ a b := by unfold aQ; split <;> omega
theorem dY (x : Int) : IntKind.u64.wrap x = x % 18446744073709551616 := by simp [IntKind.wrap, IntKind.bits, IntKind.signed]
end Go.Proofs.YtbicifcgghmhaaaGreat
