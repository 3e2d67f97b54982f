/- Sets of integers. No statement is proved here. -/
import Derived.Test.YtcfmjpnffembpaaGreatZLBy
namespace Go.Proofs.YtcfmjpnffembpaaGreat
open Go.ChangeShapes Go.WideShapes Go.ChangeAt Go.RowKit
open Bool renaming false_ne_true → kh8
open Int renaming le_refl → kd8
open List renaming all_eq_true → kf1, any_append → kl0, any_eq_true → kg9, append_assoc → kd2, append_nil → kd7, drop → ka3, drop_of_length_le → kj7, eq_nil_of_length_eq_zero → kd1, flatMap_append → kj8, getD → ka1, getElem?_drop → ke3, getElem?_eq_getElem → ka8, length_append → ka6, length_cons → kb0, length_drop → kb3, length_nil → kb1, length_reverse → kc0, length_take → kb2, mem_cons_of_mem → kb9, mem_cons_self → kb5, mem_of_getElem? → kd9, mem_of_mem_take → kg8, reverse_cons → kf6, take → ka5, take_append_drop → kg3, take_left' → kk9, take_of_length_le → kb7
open Nat renaming eq_zero_or_pos → kk5, le_refl → kc2, lt_or_ge → ki5, zero_le → ke0
set_option linter.unusedVariables false
set_option linter.unusedSimpArgs false
/-! sets of integers: spans as pairs -/
abbrev Sp := Int × Int
def fK (p : Sp) : Prop := 0 ≤ p.1 ∧ p.1 ≤ p.2 ∧ p.2 ≤ 2147483647
def cY : List Sp → Prop
  | [] => True
  | p :: r => fK p ∧ (∀ q ∈ r, p.2 + 1 < q.1) ∧ cY r
def dH (ps : List Sp) (x : Int) : Prop := ∃ p ∈ ps, p.1 ≤ x ∧ x ≤ p.2
theorem gX (x : Int) : ¬ dH [] x := fun ⟨p, h, _⟩ => by cases h
theorem q5 {p : Sp} {r : List Sp} {x : Int} : dH (p :: r) x ↔ (p.1 ≤ x ∧ x ≤ p.2) ∨ dH r x := by
  constructor
  · rintro ⟨q, hq, h⟩
    rcases List.mem_cons.1 hq with rfl | hq
    · exact .inl h
    · exact .inr ⟨q, hq, h⟩
  · rintro (h | ⟨q, hq, h⟩)
    · exact ⟨p, kb5 .., h⟩
    · exact ⟨q, kb9 _ hq, h⟩
theorem gE : ∀ {ps : List Sp}, cY ps → ∀ p ∈ ps, fK p
  | [], _, p, hp => by cases hp
  | q :: r, h, p, hp => by
    rcases List.mem_cons.1 hp with rfl | hp
    · exact h.1
    · exact gE h.2.2 p hp
theorem gF {p : Sp} {r : List Sp} (h : ∀ q ∈ r, p.2 + 1 < q.1) {x : Int} (hx : dH r x) : p.2 + 1 < x := by
  obtain ⟨q, hq, h1, _⟩ := hx
  have := h q hq; omega
theorem k7e : ∀ {a b : List Sp}, cY a → cY b → (∀ x, dH a x ↔ dH b x) → a = b
  | [], [], _, _, _ => rfl
  | [], q :: r, _, hb, h => absurd ((h q.1).2 (q5.2 (.inl ⟨kd8 _, hb.1.2.1⟩))) (gX _)
  | p :: r, [], ha, _, h => absurd ((h p.1).1 (q5.2 (.inl ⟨kd8 _, ha.1.2.1⟩))) (gX _)
  | p :: r, q :: s, ha, hb, h => by
    have m1 : dH (p :: r) p.1 := q5.2 (.inl ⟨kd8 _, ha.1.2.1⟩)
    have m2 : dH (q :: s) q.1 := q5.2 (.inl ⟨kd8 _, hb.1.2.1⟩)
    have v1 := ha.1; have v2 := hb.1
    unfold fK at v1 v2
    have e1 : p.1 = q.1 := by
      have n1 := q5.1 ((h _).1 m1)
      have n2 := q5.1 ((h _).2 m2)
      have g1 : dH s p.1 → q.2 + 1 < p.1 := gF hb.2.1
      have g2 : dH r q.1 → p.2 + 1 < q.1 := gF ha.2.1
      rcases n1 with n1 | n1
      · rcases n2 with n2 | n2
        · omega
        · have := g2 n2; omega
      · have := g1 n1
        rcases n2 with n2 | n2
        · omega
        · have := g2 n2; omega
    have no1 : ¬ dH (p :: r) (p.2 + 1) := fun hh => by
      rcases q5.1 hh with hh | hh
      · omega
      · have := gF ha.2.1 hh; omega
    have no2 : ¬ dH (q :: s) (q.2 + 1) := fun hh => by
      rcases q5.1 hh with hh | hh
      · omega
      · have := gF hb.2.1 hh; omega
    have e2 : p.2 = q.2 := by
      rcases Int.lt_trichotomy p.2 q.2 with hlt | heq | hgt
      · exact absurd ((h (p.2 + 1)).2 (q5.2 (.inl ⟨by omega, by omega⟩))) no1
      · exact heq
      · exact absurd ((h (q.2 + 1)).1 (q5.2 (.inl ⟨by omega, by omega⟩))) no2
    obtain ⟨a, b⟩ := p
    obtain ⟨c, d⟩ := q
    obtain rfl : a = c := e1
    obtain rfl : b = d := e2
    congr 1
    refine k7e ha.2.2 hb.2.2 fun x => ?_
    have hx := h x
    rw [q5, q5] at hx
    constructor
    · intro hr
      have := gF ha.2.1 hr
      rcases hx.1 (.inr hr) with h9 | h9
      · exfalso; simp only at this h9; omega
      · exact h9
    · intro hr
      have := gF hb.2.1 hr
      rcases hx.2 (.inr hr) with h9 | h9
      · exfalso; simp only at this h9; omega
      · exact h9
/-! spans that are joined: the last span first -/
def mN (o : List Sp) (x : Sp) : List Sp := match o with
  | [] => [x]
  | l :: r => if x.1 ≤ l.2 + 1 then (l.1, max l.2 x.2) :: r else x :: l :: r
def okR : List Sp → Prop
  | [] => True
  | p :: r => fK p ∧ (∀ q ∈ r, q.2 + 1 < p.1) ∧ okR r
theorem k3l : ∀ {o : List Sp} {r : List Sp}, okR o → cY r → (∀ p ∈ o, ∀ q ∈ r, p.2 + 1 < q.1) → cY (o.reverse ++ r)
  | [], r, _, h, _ => h
  | p :: o, r, ho, hr, h => by
    rw [kf6, kd2]
    refine k3l ho.2.2 ⟨ho.1, fun q hq => h p (kb5 ..) q hq, hr⟩ fun a ha b hb => ?_
    rcases List.mem_cons.1 hb with rfl | hb
    · exact ho.2.1 a ha
    · exact h a (kb9 _ ha) b hb
theorem u6j (o : List Sp) (x : Sp) : (mN o x).length ≤ o.length + 1 := by
  unfold mN
  cases o with
  | nil => exact kc2 _
  | cons l r => show (if _ then _ else _ : List Sp).length ≤ _; split <;> simp
theorem u9z {o : List Sp} {x : Sp} (h : okR o) (hx : fK x) (hl : ∀ l r, o = l :: r → l.1 ≤ x.1) : okR (mN o x) := by
  cases o with
  | nil => exact ⟨hx, fun q hq => (by cases hq), trivial⟩
  | cons l r =>
    have h1 := hl l r rfl
    have hv := h.1
    unfold fK at hv hx
    show okR (if _ then _ else _)
    split
    · refine ⟨⟨hv.1, ?_, ?_⟩, h.2.1, h.2.2⟩
      · show l.1 ≤ max l.2 x.2; omega
      · show max l.2 x.2 ≤ _; omega
    · refine ⟨hx, fun q hq => ?_, h⟩
      rcases List.mem_cons.1 hq with rfl | hq
      · omega
      · have := h.2.1 q hq; omega
theorem v00 {o : List Sp} {x : Sp} (h : okR o) (hx : fK x) (hl : ∀ l r, o = l :: r → l.1 ≤ x.1) (z : Int) : dH (mN o x) z ↔ dH o z ∨ (x.1 ≤ z ∧ z ≤ x.2) := by
  cases o with
  | nil => show dH [x] z ↔ _; rw [q5]; exact or_comm
  | cons l r =>
    have h1 := hl l r rfl
    have hv := h.1
    unfold fK at hv hx
    show dH (if _ then _ else _) z ↔ _
    split
    · rw [q5, q5]
      show (l.1 ≤ z ∧ z ≤ max l.2 x.2) ∨ _ ↔ _
      constructor
      · rintro (h9 | h9)
        · by_cases h8 : z ≤ l.2
          · exact .inl (.inl ⟨h9.1, h8⟩)
          · exact .inr ⟨by omega, by omega⟩
        · exact .inl (.inr h9)
      · rintro ((h9 | h9) | h9)
        · exact .inl ⟨h9.1, by omega⟩
        · exact .inr h9
        · exact .inl ⟨by omega, by omega⟩
    · rw [q5]; exact or_comm
theorem u24 {o : List Sp} {x : Sp} (hl : ∀ l r, o = l :: r → l.1 ≤ x.1) : ∀ l r, mN o x = l :: r → l.1 ≤ x.1 := by
  intro l r e
  cases o with
  | nil => have e : [x] = l :: r := e; cases e; exact kd8 _
  | cons a s =>
    have h1 := hl a s rfl
    have e : (if x.1 ≤ a.2 + 1 then (a.1, max a.2 x.2) :: s else x :: a :: s) = l :: r := e
    split at e
    · cases e; exact h1
    · cases e; exact kd8 _
def jnR (s : List Sp) : List Sp := s.foldl mN []
def srP (s : List Sp) : Prop := s.Pairwise fun a b => a.1 ≤ b.1
theorem k84 : ∀ (s o : List Sp), okR o → (∀ p ∈ s, fK p) → srP s → (∀ l r, o = l :: r → ∀ p ∈ s, l.1 ≤ p.1) → okR (s.foldl mN o) ∧ (∀ z, dH (s.foldl mN o) z ↔ dH o z ∨ dH s z) ∧ (s.foldl mN o).length ≤ o.length + s.length
  | [], o, h, _, _, _ => ⟨h, fun z => ⟨.inl, fun h => h.elim id fun h => absurd h (gX _)⟩, kc2 _⟩
  | x :: s, o, h, hv, hs, hl => by
    have hx := hv x (kb5 ..)
    have hl1 : ∀ l r, o = l :: r → l.1 ≤ x.1 := fun l r e => hl l r e x (kb5 ..)
    obtain ⟨h1, h2⟩ := List.pairwise_cons.1 hs
    obtain ⟨i1, i2, i3⟩ := k84 s (mN o x) (u9z h hx hl1) (fun p hp => hv p (kb9 _ hp)) h2 (fun l r e p hp => by have := u24 hl1 l r e; have := h1 p hp; omega)
    refine ⟨i1, fun z => ?_, ?_⟩
    · show dH (s.foldl mN (mN o x)) z ↔ _
      rw [i2 z, v00 h hx hl1 z, q5, or_assoc]
    · show (s.foldl mN (mN o x)).length ≤ _
      have := u6j o x
      simp only [kb0]; omega
def jnP (s : List Sp) : List Sp := (jnR s).reverse
theorem k83 {s : List Sp} (hv : ∀ p ∈ s, fK p) (hs : srP s) : cY (jnP s) ∧ (∀ z, dH (jnP s) z ↔ dH s z) ∧ (jnP s).length ≤ s.length := by
  obtain ⟨h1, h2, h3⟩ := k84 s [] trivial hv hs (fun l r e => by cases e)
  refine ⟨?_, fun z => ?_, ?_⟩
  · have := k3l (r := []) h1 trivial (fun _ _ q hq => by cases hq)
    rw [kd7] at this; exact this
  · have e : dH (jnP s) z ↔ dH (jnR s) z := by
      unfold dH jnP
      simp only [List.mem_reverse]
    rw [e]
    have := h2 z
    rw [show s.foldl mN [] = jnR s from rfl] at this
    rw [this]
    exact ⟨fun h => h.elim (fun h => absurd h (gX _)) id, .inr⟩
  · unfold jnP jnR; rw [kc0]
    have : (s.foldl mN []).length ≤ ([] : List Sp).length + s.length := h3
    rw [kb1, Nat.zero_add] at this; exact this
theorem k03 {a b : List Sp} (h : a.Perm b) (z : Int) : dH a z ↔ dH b z := by
  unfold dH
  constructor
  · rintro ⟨p, hp, h9⟩; exact ⟨p, h.mem_iff.1 hp, h9⟩
  · rintro ⟨p, hp, h9⟩; exact ⟨p, h.mem_iff.2 hp, h9⟩
theorem u2c {a b : List Sp} (h : a.Perm b) (hv : ∀ p ∈ a, fK p) (ha : srP a) (hb : srP b) : jnP a = jnP b := by
  have h1 := k83 hv ha
  have h2 := k83 (s := b) (fun p hp => hv p (h.mem_iff.2 hp)) hb
  exact k7e h1.1 h2.1 fun z => (h1.2.1 z).trans ((k03 h z).trans (h2.2.1 z).symm)
/-! intersections -/
def oA (p q : Sp) : List Sp := if max p.1 q.1 ≤ min p.2 q.2 then [(max p.1 q.1, min p.2 q.2)] else []
def zA (p : Sp) (b : List Sp) : List Sp := b.flatMap (oA p)
def fD (a b : List Sp) : List Sp := a.flatMap fun p => zA p b
theorem k0d {p q : Sp} (h : p.2 < q.1 ∨ q.2 < p.1) : oA p q = [] := by unfold oA; rw [if_neg (by omega)]
theorem k0b {p : Sp} : ∀ {b : List Sp}, (∀ q ∈ b, p.2 < q.1 ∨ q.2 < p.1) → zA p b = []
  | [], _ => rfl
  | q :: b, h => by
    show oA p q ++ zA p b = []
    rw [k0d (h q (kb5 ..)), k0b fun r hr => h r (kb9 _ hr)]; rfl
theorem mP : ∀ a : List Sp, fD a [] = []
  | [] => rfl
  | p :: a => by show zA p [] ++ fD a [] = []; rw [mP a]; rfl
theorem k40 {x y : Sp} {a b : List Sp} (hb : cY (y :: b)) (h : x.2 < y.2) : fD (x :: a) (y :: b) = oA x y ++ fD a (y :: b) := by
  show (oA x y ++ zA x b) ++ _ = _
  rw [k0b fun q hq => .inl (by have := hb.2.1 q hq; omega), kd7]; rfl
theorem k0c {y : Sp} {b : List Sp} : ∀ {a : List Sp}, (∀ p ∈ a, y.2 < p.1) → fD a (y :: b) = fD a b
  | [], _ => rfl
  | p :: a, h => by
    show (oA p y ++ zA p b) ++ fD a (y :: b) = zA p b ++ fD a b
    rw [k0d (.inr (h p (kb5 ..))), k0c fun q hq => h q (kb9 _ hq)]; rfl
theorem k09 {x y : Sp} {a b : List Sp} (ha : cY (x :: a)) (h : ¬ x.2 < y.2) : fD (x :: a) (y :: b) = oA x y ++ fD (x :: a) b := by
  show (oA x y ++ zA x b) ++ fD a (y :: b) = oA x y ++ (zA x b ++ fD a b)
  rw [k0c fun p hp => by have := ha.2.1 p hp; omega, kd2]
theorem u2e (p q : Sp) : (oA p q).length ≤ 1 := by unfold oA; split <;> simp
theorem wP : ∀ (n : Nat) (a b : List Sp), a.length + b.length ≤ n → cY a → cY b → (fD a b).length ≤ a.length + b.length
  | _, [], b, _, _, _ => ke0 _
  | _, p :: a, [], _, _, _ => by rw [mP]; exact ke0 _
  | 0, p :: a, q :: b, h, _, _ => by simp at h
  | n + 1, x :: a, y :: b, h, ha, hb => by
    have h1 := u2e x y
    by_cases hxy : x.2 < y.2
    · rw [k40 hb hxy, ka6]
      have := wP n a (y :: b) (by simp at h ⊢; omega) ha.2.2 hb
      simp only [kb0] at this ⊢; omega
    · rw [k09 ha hxy, ka6]
      have := wP n (x :: a) b (by simp at h ⊢; omega) ha hb.2.2
      simp only [kb0] at this ⊢; omega
theorem gW {p q r : Sp} : r ∈ oA p q ↔ max p.1 q.1 ≤ min p.2 q.2 ∧ r = (max p.1 q.1, min p.2 q.2) := by
  unfold oA
  split
  · rename_i h; rw [List.mem_singleton]; exact ⟨fun e => ⟨h, e⟩, fun e => e.2⟩
  · rename_i h; exact ⟨fun e => (by cases e), fun e => absurd e.1 h⟩
theorem wI {a b : List Sp} {r : Sp} : r ∈ fD a b ↔ ∃ p ∈ a, ∃ q ∈ b, r ∈ oA p q := by
  unfold fD zA
  simp only [List.mem_flatMap]
theorem v09 (a b : List Sp) (x : Int) : dH (fD a b) x ↔ dH a x ∧ dH b x := by
  constructor
  · rintro ⟨r, hr, h⟩
    obtain ⟨p, hp, q, hq, hr⟩ := wI.1 hr
    obtain ⟨h1, rfl⟩ := gW.1 hr
    simp only at h
    exact ⟨⟨p, hp, by omega, by omega⟩, ⟨q, hq, by omega, by omega⟩⟩
  · rintro ⟨⟨p, hp, h1⟩, ⟨q, hq, h2⟩⟩
    exact ⟨_, wI.2 ⟨p, hp, q, hq, gW.2 ⟨by omega, rfl⟩⟩, by simp only; omega, by simp only; omega⟩
theorem wC : ∀ {a b : List Sp}, cY a → cY b → (∀ p ∈ a, ∀ q ∈ b, p.2 + 1 < q.1) → cY (a ++ b)
  | [], b, _, hb, _ => hb
  | p :: a, b, ha, hb, h => ⟨ha.1, fun q hq => (List.mem_append.1 hq).elim (ha.2.1 q) (h p (kb5 ..) q), wC ha.2.2 hb fun r hr q hq => h r (kb9 _ hr) q hq⟩
theorem u6r {p q : Sp} (hp : fK p) (hq : fK q) : cY (oA p q) := by
  unfold oA
  unfold fK at hp hq
  split
  · exact ⟨⟨by show 0 ≤ max p.1 q.1; omega, by assumption, by show min p.2 q.2 ≤ _; omega⟩, fun _ h => (by cases h), trivial⟩
  · trivial
theorem k86 {p : Sp} (hp : fK p) : ∀ {b : List Sp}, cY b → cY (zA p b)
  | [], _ => trivial
  | q :: b, h => by
    refine wC (u6r hp h.1) (k86 hp h.2.2) fun r hr s hs => ?_
    obtain ⟨_, rfl⟩ := gW.1 hr
    obtain ⟨t, ht, hs⟩ := List.mem_flatMap.1 hs
    obtain ⟨_, rfl⟩ := gW.1 hs
    have := h.2.1 t ht
    simp only; omega
theorem u4c : ∀ {a b : List Sp}, cY a → cY b → cY (fD a b)
  | [], _, _, _ => trivial
  | p :: a, b, ha, hb => by
    refine wC (k86 ha.1 hb) (u4c ha.2.2 hb) fun r hr s hs => ?_
    obtain ⟨q, hq, hr⟩ := List.mem_flatMap.1 hr
    obtain ⟨_, rfl⟩ := gW.1 hr
    obtain ⟨t, ht, u, hu, hs⟩ := wI.1 hs
    obtain ⟨_, rfl⟩ := gW.1 hs
    have := ha.2.1 t ht
    simp only; omega
/-! inside -/
def ctE (p q : Sp) : Bool := decide (q.1 ≤ p.1 ∧ p.2 ≤ q.2)
def inP (a b : List Sp) : Bool := a.all fun p => b.any (ctE p)
theorem k73 : ∀ {b : List Sp} {p : Sp}, cY b → p.1 ≤ p.2 → (∀ x, p.1 ≤ x → x ≤ p.2 → dH b x) → ∃ q ∈ b, q.1 ≤ p.1 ∧ p.2 ≤ q.2
  | [], p, _, hp, h => absurd (h p.1 (kd8 _) hp) (gX _)
  | q :: b, p, hb, hp, h => by
    have hq := hb.1
    unfold fK at hq
    rcases q5.1 (h p.1 (kd8 _) hp) with h1 | h1
    · refine ⟨q, kb5 .., h1.1, ?_⟩
      apply Int.not_lt.1
      intro hlt
      rcases q5.1 (h (q.2 + 1) (by omega) (by omega)) with h2 | h2
      · omega
      · have := gF hb.2.1 h2; omega
    · have h3 := gF hb.2.1 h1
      obtain ⟨r, hr, h4⟩ := k73 (p := p) hb.2.2 hp fun x hx hx2 => by
        rcases q5.1 (h x hx hx2) with h2 | h2
        · omega
        · exact h2
      exact ⟨r, kb9 _ hr, h4⟩
theorem u6u {a b : List Sp} (ha : cY a) (hb : cY b) (h : ∀ x, dH a x → dH b x) : inP a b = true := by
  unfold inP
  rw [kf1]
  intro p hp
  have hv := gE ha p hp
  unfold fK at hv
  obtain ⟨q, hq, h1⟩ := k73 hb hv.2.1 fun x h1 h2 => h x ⟨p, hp, h1, h2⟩
  rw [kg9]
  exact ⟨q, hq, decide_eq_true h1⟩
/-! the nearest -/
def jN (n : Int) (p : Sp) : Int := max p.1 (min p.2 n)
def vA (a b : Int) : Int := if b < a then a - b else b - a
def nrP (n : Int) : List Sp → Option Int → Option Int
  | [], o => o
  | p :: r, o => nrP n r (match o with
    | none => some (jN n p)
    | some v => if vA (jN n p) n < vA v n then some (jN n p) else some v)
theorem xD {p : Sp} (hp : p.1 ≤ p.2) (n x : Int) (hx : p.1 ≤ x ∧ x ≤ p.2) : vA (jN n p) n < vA x n ∨ jN n p = x ∨ (vA (jN n p) n = vA x n ∧ jN n p ≤ x) := by
  unfold vA jN
  split <;> split <;> omega
theorem wE : ∀ (n : Int) (s : List Sp) (v : Int), ∃ w, nrP n s (some v) = some w
  | n, [], v => ⟨v, rfl⟩
  | n, p :: r, v => by
    show ∃ w, nrP n r (if vA (jN n p) n < vA v n then some (jN n p) else some v) = some w
    split
    · exact wE n r _
    · exact wE n r _
theorem wF : ∀ (n : Int) (s : List Sp) (v w : Int), cY s → (∀ q ∈ s, v < q.1) → nrP n s (some v) = some w → (w = v ∨ dH s w) ∧ (vA w n < vA v n ∨ (vA w n = vA v n ∧ w ≤ v)) ∧ ∀ x, dH s x → vA w n < vA x n ∨ (vA w n = vA x n ∧ w ≤ x)
  | n, [], v, w, _, _, h => by
    have h : some v = some w := h
    cases h
    exact ⟨.inl rfl, .inr ⟨rfl, kd8 _⟩, fun x hx => absurd hx (gX _)⟩
  | n, p :: r, v, w, hs, hv, h => by
    have hp := hs.1
    unfold fK at hp
    have h : nrP n r (if vA (jN n p) n < vA v n then some (jN n p) else some v) = some w := h
    have hc : p.1 ≤ jN n p ∧ jN n p ≤ p.2 := by unfold jN; omega
    have hvp := hv p (kb5 ..)
    by_cases hd : vA (jN n p) n < vA v n
    · rw [if_pos hd] at h
      obtain ⟨h1, h2, h3⟩ := wF n r (jN n p) w hs.2.2 (fun q hq => by have := hs.2.1 q hq; omega) h
      refine ⟨.inr (q5.2 (h1.imp (fun e => by rw [e]; exact hc) id)), by omega, fun x hx => ?_⟩
      rcases q5.1 hx with hx | hx
      · have := xD hp.2.1 n x hx
        rcases this with h9 | h9 | h9
        · omega
        · rw [← h9]; omega
        · omega
      · exact h3 x hx
    · rw [if_neg hd] at h
      obtain ⟨h1, h2, h3⟩ := wF n r v w hs.2.2 (fun q hq => hv q (kb9 _ hq)) h
      refine ⟨h1.imp id (fun e => q5.2 (.inr e)), h2, fun x hx => ?_⟩
      rcases q5.1 hx with hx | hx
      · have := xD hp.2.1 n x hx
        have hw : w ≤ v ∨ vA w n < vA v n := by omega
        rcases this with h9 | h9 | h9
        · omega
        · rw [← h9]; omega
        · omega
      · exact h3 x hx
/-! spans told as one list of numbers -/
def uF : List Int → List Sp
  | a :: b :: r => (a, b) :: uF r
  | _ => []
def fl : List Sp → List Int
  | [] => []
  | p :: r => p.1 :: p.2 :: fl r
theorem o4 : ∀ s : List Sp, uF (fl s) = s
  | [] => rfl
  | p :: r => by show (p.1, p.2) :: uF (fl r) = p :: r; rw [o4 r]
theorem fH : ∀ s : List Sp, (fl s).length = s.length * 2
  | [] => rfl
  | p :: r => by show (fl r).length + 1 + 1 = (r.length + 1) * 2; rw [fH r]; omega
theorem jJ : ∀ a b : List Sp, fl (a ++ b) = fl a ++ fl b
  | [], b => rfl
  | p :: a, b => by show p.1 :: p.2 :: fl (a ++ b) = p.1 :: p.2 :: (fl a ++ fl b); rw [jJ a b]
theorem k8k : ∀ (n : Nat) (l : List Int), l.length = n * 2 → fl (uF l) = l
  | 0, [], _ => rfl
  | 0, _ :: _, h => by simp at h
  | n + 1, a :: b :: r, h => by
    show a :: b :: fl (uF r) = a :: b :: r
    rw [k8k n r (by simp at h; omega)]
  | n + 1, [_], h => by simp at h; omega
  | n + 1, [], h => by simp at h
theorem qW {n : Nat} {l : List Int} (h : l.length = n * 2) : (uF l).length = n := by
  have h1 := fH (uF l)
  rw [k8k n l h] at h1; omega
theorem n4 {n : Nat} {a b : List Int} (h : a.length = n * 2) : uF (a ++ b) = uF a ++ uF b := by
  induction n generalizing a with
  | zero =>
    have : a = [] := kd1 (by omega)
    subst this; rfl
  | succ n ih =>
    match a, h with
    | x :: y :: r, h =>
      show (x, y) :: uF (r ++ b) = (x, y) :: (uF r ++ uF b)
      rw [ih (by simp at h; omega)]
    | [_], h => simp at h; omega
    | [], h => simp at h
theorem aE : ∀ (n : Nat) (l : List Int) (j : Nat), l.length = n * 2 → j < n → (uF l)[j]? = some (ka1 l (j * 2) 0, ka1 l (j * 2 + 1) 0)
  | n + 1, a :: b :: r, 0, _, _ => rfl
  | n + 1, a :: b :: r, j + 1, h, hj => by
    show (uF r)[j]? = _
    rw [aE n r j (by simp at h; omega) (by omega)]
    rw [show (j + 1) * 2 = j * 2 + 1 + 1 by omega]; rfl
  | n + 1, [_], _, h, _ => by simp at h; omega
  | n + 1, [], _, h, _ => by simp at h
theorem yF {n : Nat} {l : List Int} (h : l.length = n * 2) {p : Sp} : p ∈ uF l ↔ ∃ j, j < n ∧ p = (ka1 l (j * 2) 0, ka1 l (j * 2 + 1) 0) := by
  constructor
  · intro hp
    obtain ⟨j, hj, e⟩ := List.mem_iff_getElem.1 hp
    rw [qW h] at hj
    have := aE n l j h hj
    rw [ka8 (by rw [qW h]; exact hj), e] at this
    exact ⟨j, hj, Option.some.inj this⟩
  · rintro ⟨j, hj, rfl⟩
    exact kd9 (aE n l j h hj)
theorem k6r {n : Nat} {l : List Int} (h : l.length = n * 2) {k : Nat} (hk : k ≤ n) : uF (ka5 (k * 2) l) = ka5 k (uF l) := by
  have h1 := n4 (n := k) (a := ka5 (k * 2) l) (b := ka3 (k * 2) l) (by rw [kb2]; omega)
  rw [kg3] at h1
  have h2 := qW (n := k) (l := ka5 (k * 2) l) (by rw [kb2]; omega)
  conv => rhs; rw [h1]
  exact (kk9 h2).symm
theorem k6s {n : Nat} {l : List Int} (h : l.length = n * 2) {k : Nat} (hk : k ≤ n) : uF (ka3 (k * 2) l) = ka3 k (uF l) := by
  have h1 := n4 (n := k) (a := ka5 (k * 2) l) (b := ka3 (k * 2) l) (by rw [kb2]; omega)
  rw [kg3] at h1
  have h2 := qW (n := k) (l := ka5 (k * 2) l) (by rw [kb2]; omega)
  conv => rhs; rw [h1]
  exact (List.drop_left' h2).symm
theorem zT {n : Nat} {l : List Int} (h : l.length = n * 2) (a b : Int) : uF (l ++ [a, b]) = uF l ++ [(a, b)] := n4 h
theorem cN {n : Nat} {l : List Int} (h : l.length = n * 2) {k : Nat} (hk : k < n) : ka3 k (uF l) = (ka1 l (k * 2) 0, ka1 l (k * 2 + 1) 0) :: ka3 (k + 1) (uF l) := by
  have hl := qW h
  rw [List.drop_eq_getElem_cons (by omega)]
  have := aE n l k h hk
  rw [ka8 (by omega)] at this
  rw [Option.some.inj this]
theorem yQ {n : Nat} {l : List Int} (h : l.length = n * 2) {k : Nat} (hk : k < n) : ka5 (k + 1) (uF l) = ka5 k (uF l) ++ [(ka1 l (k * 2) 0, ka1 l (k * 2 + 1) 0)] := by
  rw [List.take_add_one, aE n l k h hk]; rfl
/-! valid sets -/
def vaE (l : List Int) (j : Nat) : Bool := decide (0 ≤ ka1 l (j * 2) 0 ∧ ka1 l (j * 2) 0 ≤ ka1 l (j * 2 + 1) 0 ∧ ka1 l (j * 2 + 1) 0 ≤ 2147483647 ∧ (j = 0 ∨ ka1 l ((j - 1) * 2 + 1) 0 + 1 < ka1 l (j * 2) 0))
def eX (l : List Int) (n : Nat) : Bool := decide (n ≤ 64) && (List.range n).all (vaE l)
theorem fV {l : List Int} {n : Nat} (h1 : n ≤ 64) (h : ∀ j, j < n → vaE l j = true) : eX l n = true :=
  Bool.and_eq_true_iff.2 ⟨decide_eq_true h1, List.all_eq_true.2 fun j hj => h j (List.mem_range.1 hj)⟩
theorem iS {l : List Int} {n : Nat} (h1 : ¬ n ≤ 64) : eX l n = false := by unfold eX; rw [decide_eq_false h1]; rfl
theorem iQ {l : List Int} {n k : Nat} (hk : k < n) (h : vaE l k = false) : eX l n = false := by
  cases hb : eX l n with
  | false => rfl
  | true =>
    have := List.all_eq_true.1 (Bool.and_eq_true_iff.1 hb).2 k (List.mem_range.2 hk)
    rw [h] at this; cases this
theorem k7d : ∀ (s : List Sp), (∀ (j : Nat) (p : Sp), s[j]? = some p → fK p) → (∀ (j : Nat) (p q : Sp), s[j]? = some p → s[j + 1]? = some q → p.2 + 1 < q.1) → cY s
  | [], _, _ => trivial
  | p :: r, h1, h2 => by
    have ih := k7d r (fun j q hq => h1 (j + 1) q hq) (fun j a b ha hb => h2 (j + 1) a b ha hb)
    refine ⟨h1 0 p rfl, ?_, ih⟩
    have hp := h1 0 p rfl
    match r, ih, h2 with
    | [], _, _ => intro q hq; cases hq
    | a :: r, ih, h2 =>
      have h3 := h2 0 p a rfl rfl
      have ha := ih.1
      unfold fK at ha
      intro q hq
      rcases List.mem_cons.1 hq with rfl | hq
      · exact h3
      · have := ih.2.1 q hq; omega
theorem wB : ∀ (s : List Sp), cY s → ∀ (j : Nat) (p q : Sp), s[j]? = some p → s[j + 1]? = some q → p.2 + 1 < q.1
  | [], _, j, p, q, h, _ => by simp at h
  | a :: r, h, 0, p, q, hp, hq => by
    have hp : some a = some p := hp
    cases hp
    exact h.2.1 q (kd9 (show r[0]? = some q from hq))
  | a :: r, h, j + 1, p, q, hp, hq => wB r h.2.2 j p q hp hq
theorem cI {l : List Int} {n : Nat} (hl : l.length = n * 2) : eX l n = true ↔ n ≤ 64 ∧ cY (uF l) := by
  constructor
  · intro h
    have h1 := Bool.and_eq_true_iff.1 h
    have ha : ∀ j, j < n → vaE l j = true := fun j hj => List.all_eq_true.1 h1.2 j (List.mem_range.2 hj)
    refine ⟨of_decide_eq_true h1.1, k7d _ (fun j p hp => ?_) (fun j p q hp hq => ?_)⟩
    · have hj : j < n := by have := (List.getElem?_eq_some_iff.1 hp).1; rw [qW hl] at this; exact this
      rw [aE n l j hl hj] at hp
      cases hp
      have := of_decide_eq_true (ha j hj)
      exact ⟨this.1, this.2.1, this.2.2.1⟩
    · have hj : j + 1 < n := by have := (List.getElem?_eq_some_iff.1 hq).1; rw [qW hl] at this; exact this
      rw [aE n l j hl (by omega)] at hp
      rw [aE n l (j + 1) hl hj] at hq
      cases hp; cases hq
      have := (of_decide_eq_true (ha (j + 1) hj)).2.2.2
      rw [show j + 1 - 1 = j by omega] at this
      rcases this with h9 | h9
      · omega
      · exact h9
  · rintro ⟨h1, h2⟩
    refine fV h1 fun j hj => decide_eq_true ?_
    have hv := gE h2 _ (kd9 (aE n l j hl hj))
    refine ⟨hv.1, hv.2.1, hv.2.2, ?_⟩
    rcases kk5 j with h9 | h9
    · exact .inl h9
    · right
      have e := aE n l (j - 1) hl (by omega)
      have e2 := aE n l j hl hj
      rw [show j = j - 1 + 1 by omega] at e2
      have := wB _ h2 (j - 1) _ _ e e2
      rw [show j - 1 + 1 = j by omega] at this
      exact this
def kC (l : List Int) (n : Nat) : List Int := if eX l n = true then l else []
def kP (l : List Int) (n : Nat) : Nat := if eX l n = true then n else 0
theorem k6e {l : List Int} {n : Nat} (h : eX l n = true) : kC l n = l ∧ kP l n = n := ⟨if_pos h, if_pos h⟩
theorem u5r {l : List Int} {n : Nat} (h : eX l n = false) : kC l n = [] ∧ kP l n = 0 := by unfold kC kP; rw [h]; exact ⟨rfl, rfl⟩
theorem kU {l : List Int} {n : Nat} (hl : l.length = n * 2) : (kC l n).length = kP l n * 2 := by
  unfold kC kP; split
  · exact hl
  · rfl
theorem uG {l : List Int} {n : Nat} (hl : l.length = n * 2) : cY (uF (kC l n)) := by
  cases h : eX l n with
  | true => rw [(k6e h).1]; exact ((cI hl).1 h).2
  | false => rw [(u5r h).1]; trivial
theorem aN {l : List Int} {n : Nat} : kP l n ≤ 64 ∧ kP l n ≤ n := by
  unfold kP; split
  · rename_i h; exact ⟨of_decide_eq_true (Bool.and_eq_true_iff.1 h).1, kc2 _⟩
  · exact ⟨ke0 _, ke0 _⟩
/-! spans in order, and joined -/
theorem k6t {n : Nat} {l : List Int} (h : l.length = n * 2) {j : Nat} (hj : j < n) : (uF l)[j]'(by rw [qW h]; exact hj) = (ka1 l (j * 2) 0, ka1 l (j * 2 + 1) 0) := by
  have := aE n l j h hj
  rw [ka8 (by rw [qW h]; exact hj)] at this
  exact Option.some.inj this
def RG (l : List Int) (n : Nat) : Prop := ∀ j, j < n → 0 ≤ ka1 l (j * 2) 0 ∧ ka1 l (j * 2) 0 ≤ ka1 l (j * 2 + 1) 0 ∧ ka1 l (j * 2 + 1) 0 ≤ 2147483647
theorem RG.v {l : List Int} {n : Nat} (hl : l.length = n * 2) (h : RG l n) : ∀ p ∈ uF l, fK p := fun p hp => by
  obtain ⟨j, hj, rfl⟩ := (yF hl).1 hp
  exact h j hj
theorem u14 {l : List Int} {n : Nat} (hl : l.length = n * 2) (h : ∀ p ∈ uF l, fK p) : RG l n := fun j hj => h _ ((yF hl).2 ⟨j, hj, rfl⟩)
def stP (s : List Sp) : List Sp := s.mergeSort fun a b => decide (a.1 ≤ b.1)
theorem gA (s : List Sp) : (stP s).Perm s := List.mergeSort_perm _ _
theorem k6b (s : List Sp) : srP (stP s) := by
  have h := List.pairwise_mergeSort (le := fun (x y : Sp) => decide (x.1 ≤ y.1)) (fun a b c h1 h2 => decide_eq_true (by have := of_decide_eq_true h1; have := of_decide_eq_true h2; omega)) (fun a b => by
    rw [Bool.or_eq_true]
    rcases Int.le_total a.1 b.1 with h | h
    · exact .inl (decide_eq_true h)
    · exact .inr (decide_eq_true h)) s
  exact h.imp fun h => of_decide_eq_true h
def mkP (s : List Sp) : List Sp := jnP (stP s)
theorem k7m {s : List Sp} (hv : ∀ p ∈ s, fK p) : cY (mkP s) ∧ (∀ z, dH (mkP s) z ↔ dH s z) ∧ (mkP s).length ≤ s.length := by
  obtain ⟨h1, h2, h3⟩ := k83 (s := stP s) (fun p hp => hv p ((gA s).mem_iff.1 hp)) (k6b s)
  exact ⟨h1, fun z => (h2 z).trans (k03 (gA s) z), by rw [(gA s).length_eq] at h3; exact h3⟩
theorem k55 {s t : List Sp} (hv : ∀ p ∈ s, fK p) (h : t.Perm s) (ht : srP t) : jnP t = mkP s :=
  (u2c ((gA s).trans h.symm) (fun p hp => hv p ((gA s).mem_iff.1 hp)) (k6b s) ht).symm
structure SI (l : List Int) (i : Nat) (o : List Int) : Prop where
  len : o.length = i * 2
  perm : (uF o).Perm (ka5 i (uF l))
  sr : srP (uF o)
theorem SI.zero (l : List Int) : SI l 0 [] := ⟨rfl, List.Perm.refl _, List.Pairwise.nil⟩
theorem SI.rg {l o : List Int} {n i : Nat} (h : SI l i o) (hl : l.length = n * 2) (hi : i ≤ n) (hr : RG l n) : RG o i :=
  u14 h.len fun p hp => hr.v hl p (kg8 (h.perm.mem_iff.1 hp))
theorem t7 {s : List Sp} (h : srP s) {i j : Nat} {p q : Sp} (hij : i ≤ j) (hp : s[i]? = some p) (hq : s[j]? = some q) : p.1 ≤ q.1 := by
  obtain ⟨h1, rfl⟩ := List.getElem?_eq_some_iff.1 hp
  obtain ⟨h2, rfl⟩ := List.getElem?_eq_some_iff.1 hq
  rcases ki5 i j with h9 | h9
  · exact List.pairwise_iff_getElem.1 h i j h1 h2 h9
  · have e : i = j := by omega
    subst e; exact kd8 _
theorem SI.step {l o q : List Int} {n i k : Nat} {a b : Int} (h : SI l i o) (hl : l.length = n * 2) (hi : i < n) (ha : a = ka1 l (i * 2) 0) (hb : b = ka1 l (i * 2 + 1) 0) (hk : k ≤ i) (h1 : ∀ j, k ≤ j → j < i → a < ka1 o (j * 2) 0) (h2 : k = 0 ∨ ka1 o ((k - 1) * 2) 0 ≤ a) (hq : q = ka5 (k * 2) o ++ [a, b] ++ ka3 (k * 2) o) : SI l (i + 1) q := by
  have e : uF q = ka5 k (uF o) ++ [(a, b)] ++ ka3 k (uF o) := by
    rw [hq, n4 (n := k + 1) (by rw [ka6, kb2, h.len]; simp only [kb0, kb1]; omega), zT (n := k) (by rw [kb2, h.len]; omega), k6r h.len hk, k6s h.len hk]
  refine ⟨?_, ?_, ?_⟩
  · rw [hq]; simp only [ka6, kb2, kb3, kb0, kb1, h.len]; omega
  · rw [e, yQ hl hi, ← ha, ← hb, kd2]
    refine (List.Perm.append_left _ List.perm_append_comm).trans ?_
    rw [← kd2, kg3]
    exact h.perm.append_right _
  · have hg : ∀ j, j < i → (uF o)[j]? = some (ka1 o (j * 2) 0, ka1 o (j * 2 + 1) 0) := fun j hj => aE i o j h.len hj
    rw [e, srP, kd2, List.pairwise_append]
    refine ⟨h.sr.sublist (List.take_sublist _ _), List.Pairwise.cons (fun x hx => ?_) (h.sr.sublist (List.drop_sublist _ _)), fun x hx y hy => ?_⟩
    · obtain ⟨j, hj, e2⟩ := List.mem_iff_getElem?.1 hx |>.elim fun j hj => (⟨j, (List.getElem?_eq_some_iff.1 hj).1, hj⟩ : ∃ j, j < (ka3 k (uF o)).length ∧ (ka3 k (uF o))[j]? = some x)
      rw [kb3, qW h.len] at hj
      rw [ke3, hg _ (by omega)] at e2
      cases e2
      have := h1 (k + j) (by omega) (by omega)
      show a ≤ _; omega
    · obtain ⟨j, hj⟩ := List.mem_iff_getElem?.1 hx
      have hj2 := (List.getElem?_eq_some_iff.1 hj).1
      rw [kb2, qW h.len] at hj2
      rw [List.getElem?_take, if_pos (by omega)] at hj
      have hxa : x.1 ≤ a := by
        rcases h2 with h2 | h2
        · omega
        · have := t7 h.sr (show j ≤ k - 1 by omega) hj (hg (k - 1) (by omega))
          exact Int.le_trans this h2
      rcases List.mem_cons.1 (show y ∈ (a, b) :: ka3 k (uF o) from hy) with rfl | hy
      · exact hxa
      · obtain ⟨m, hm⟩ := List.mem_iff_getElem?.1 hy
        have hm2 := (List.getElem?_eq_some_iff.1 hm).1
        rw [kb3, qW h.len] at hm2
        rw [ke3, hg _ (by omega)] at hm
        cases hm
        have := h1 (k + m) (by omega) (by omega)
        show x.1 ≤ _; omega
theorem SI.all {l o : List Int} {n i : Nat} (h : SI l i o) (hl : l.length = n * 2) (hi : n ≤ i) : (uF o).Perm (uF l) := by
  have := h.perm
  rw [kb7 (by rw [qW hl]; exact hi)] at this
  exact this
def MG (o : List Int) (i : Nat) (k : Nat) (out : List Int) : Prop := out = fl ((ka5 i (uF o)).foldl mN []).reverse ∧ ((ka5 i (uF o)).foldl mN []).length = k
theorem MG.zero (o : List Int) : MG o 0 0 [] := ⟨rfl, rfl⟩
theorem MG.len {o out : List Int} {i k : Nat} (h : MG o i k out) : out.length = k * 2 := by rw [h.1, fH, kc0, h.2]
theorem u77 (r : List Sp) (l : Sp) (v : Int) : List.set (fl (r ++ [l])) (r.length * 2 + 1) v = fl (r ++ [(l.1, v)]) := by
  rw [jJ, jJ, ← fH r, List.set_append_right _ _ (by omega), show (fl r).length + 1 - (fl r).length = 1 by omega]; rfl
theorem u2o (r : List Sp) (l : Sp) : ka1 (fl (r ++ [l])) (r.length * 2 + 1) 0 = l.2 := by
  rw [jJ, List.getD_eq_getElem?_getD, ← fH r, List.getElem?_append_right (by omega), show (fl r).length + 1 - (fl r).length = 1 by omega]; rfl
theorem MG.last {o out : List Int} {i k : Nat} (h : MG o i k out) (hk : 1 ≤ k) : ∃ l r, (ka5 i (uF o)).foldl mN [] = l :: r ∧ out = fl (r.reverse ++ [l]) ∧ r.length = k - 1 ∧ ka1 out ((k - 1) * 2 + 1) 0 = l.2 := by
  obtain ⟨h1, h2⟩ := h
  cases e : (ka5 i (uF o)).foldl mN [] with
  | nil => rw [e] at h2; simp at h2; omega
  | cons l r =>
    rw [e] at h1 h2
    rw [kf6] at h1
    have h3 : r.length = k - 1 := by simp at h2; omega
    refine ⟨l, r, rfl, h1, h3, ?_⟩
    rw [h1, ← h3, ← (kc0 : r.reverse.length = r.length)]; exact u2o _ _
theorem MG.next {o : List Int} {n i : Nat} (hl : o.length = n * 2) (hi : i < n) : (ka5 (i + 1) (uF o)).foldl mN [] = mN ((ka5 i (uF o)).foldl mN []) (ka1 o (i * 2) 0, ka1 o (i * 2 + 1) 0) := by
  rw [yQ hl hi, List.foldl_append]; rfl
theorem MG.new {o out q : List Int} {n i k : Nat} {a b : Int} (h : MG o i k out) (hl : o.length = n * 2) (hi : i < n) (ha : a = ka1 o (i * 2) 0) (hb : b = ka1 o (i * 2 + 1) 0) (h2 : k = 0 ∨ ka1 out ((k - 1) * 2 + 1) 0 + 1 < a) (hq : q = out ++ [a, b]) : MG o (i + 1) (k + 1) q := by
  unfold MG
  rw [MG.next hl hi, ← ha, ← hb, hq]
  rcases kk5 k with h0 | h0
  · have h3 := h.2
    rw [h0] at h3
    have e := kd1 h3
    rw [h.1, e]; subst h0; exact ⟨rfl, rfl⟩
  · obtain ⟨l, r, e, e1, e2, e3⟩ := h.last h0
    rw [e]
    have h4 : l.2 + 1 < a := by
      rcases h2 with h2 | h2
      · omega
      · rw [e3] at h2; exact h2
    have e5 : mN (l :: r) (a, b) = (a, b) :: l :: r := by
      show (if a ≤ l.2 + 1 then _ else _) = _
      rw [if_neg (by omega)]
    rw [e5, e1]
    refine ⟨?_, by simp only [kb0]; omega⟩
    rw [kf6, kf6, jJ (r.reverse ++ [l])]; rfl
theorem MG.join {o out q : List Int} {n i k : Nat} {a b v : Int} (h : MG o i k out) (hl : o.length = n * 2) (hi : i < n) (ha : a = ka1 o (i * 2) 0) (hb : b = ka1 o (i * 2 + 1) 0) (hk : 1 ≤ k) (h2 : a ≤ ka1 out ((k - 1) * 2 + 1) 0 + 1) (hv : v = max (ka1 out ((k - 1) * 2 + 1) 0) b) (hq : q = List.set out ((k - 1) * 2 + 1) v) : MG o (i + 1) k q := by
  unfold MG
  rw [MG.next hl hi, ← ha, ← hb, hq]
  obtain ⟨l, r, e, e1, e2, e3⟩ := h.last hk
  rw [e]
  rw [e3] at h2 hv
  have e5 : mN (l :: r) (a, b) = (l.1, max l.2 b) :: r := by
    show (if a ≤ l.2 + 1 then _ else _) = _
    rw [if_pos h2]
  rw [e5, e1, ← e2]
  refine ⟨?_, by simp only [kb0]; omega⟩
  rw [← (kc0 : r.reverse.length = r.length), u77, kf6, hv]
theorem MG.fin {o out : List Int} {n i k : Nat} (h : MG o i k out) (hl : o.length = n * 2) (hi : n ≤ i) : out = fl (jnP (uF o)) ∧ (jnP (uF o)).length = k := by
  unfold MG at h
  rw [kb7 (by rw [qW hl]; exact hi)] at h
  refine ⟨h.1, ?_⟩
  unfold jnP jnR; rw [kc0]; exact h.2
theorem u9y : ∀ (s o : List Sp), (∀ p ∈ o, fK p) → (∀ p ∈ s, fK p) → ∀ p ∈ s.foldl mN o, 0 ≤ p.1 ∧ 0 ≤ p.2 ∧ p.2 ≤ 2147483647
  | [], o, h, _, p, hp => by have := h p hp; unfold fK at this; omega
  | x :: s, o, h, hs, p, hp => by
    refine u9y s (mN o x) (fun q hq => ?_) (fun q hq => hs q (kb9 _ hq)) p hp
    have hx := hs x (kb5 ..)
    cases o with
    | nil => rw [List.mem_singleton.1 (show q ∈ [x] from hq)]; exact hx
    | cons l r =>
      have hl := h l (kb5 ..)
      have hq : q ∈ (if x.1 ≤ l.2 + 1 then (l.1, max l.2 x.2) :: r else x :: l :: r) := hq
      unfold fK at hx hl
      split at hq
      · rcases List.mem_cons.1 hq with rfl | hq
        · exact ⟨hl.1, by show l.1 ≤ max l.2 x.2; omega, by show max l.2 x.2 ≤ _; omega⟩
        · exact h q (kb9 _ hq)
      · rcases List.mem_cons.1 hq with rfl | hq
        · exact hx
        · exact h q hq
theorem MG.hi {o out : List Int} {n i k : Nat} (h : MG o i k out) (hl : o.length = n * 2) (hr : RG o n) (hk : 1 ≤ k) : 0 ≤ ka1 out ((k - 1) * 2 + 1) 0 ∧ ka1 out ((k - 1) * 2 + 1) 0 ≤ 2147483647 := by
  obtain ⟨l, r, e, _, _, e3⟩ := h.last hk
  rw [e3]
  have := u9y (ka5 i (uF o)) [] (fun _ h => (by cases h)) (fun p hp => hr.v hl p (kg8 hp)) l (by rw [e]; exact kb5 ..)
  exact ⟨this.2.1, this.2.2⟩
/-! the functions on lists -/
def rgE (l : List Int) (j : Nat) : Bool := decide (0 ≤ ka1 l (j * 2) 0 ∧ ka1 l (j * 2) 0 ≤ ka1 l (j * 2 + 1) 0 ∧ ka1 l (j * 2 + 1) 0 ≤ 2147483647)
def rgB (l : List Int) (n : Nat) : Bool := (List.range n).all (rgE l)
theorem u8u {l : List Int} {n : Nat} (h : ∀ j, j < n → rgE l j = true) : rgB l n = true := List.all_eq_true.2 fun j hj => h j (List.mem_range.1 hj)
theorem u5u {l : List Int} {n k : Nat} (hk : k < n) (h : rgE l k = false) : rgB l n = false := by
  cases hb : rgB l n with
  | false => rfl
  | true => have := List.all_eq_true.1 hb k (List.mem_range.2 hk); rw [h] at this; cases this
theorem mL {l : List Int} {n : Nat} : rgB l n = true ↔ RG l n := ⟨fun h j hj => of_decide_eq_true (List.all_eq_true.1 h j (List.mem_range.2 hj)), fun h => u8u fun j hj => decide_eq_true (h j hj)⟩
def x9 (l : List Int) : List Int := fl (mkP (uF l))
def n9 (l : List Int) : Nat := (mkP (uF l)).length
theorem k27 (l : List Int) : (x9 l).length = n9 l * 2 := fH _
theorem k85 {l : List Int} {n : Nat} (hl : l.length = n * 2) (hr : RG l n) : n9 l ≤ n := by
  have := (k7m (hr.v hl)).2.2
  rw [qW hl] at this; exact this
theorem u6o {l o out : List Int} {n k : Nat} (hl : l.length = n * 2) (hr : RG l n) (ho : o.length = n * 2) (hp : (uF o).Perm (uF l)) (hs : srP (uF o)) (h : MG o n k out) : out = x9 l ∧ n9 l = k := by
  obtain ⟨h1, h2⟩ := h.fin ho (kc2 _)
  rw [k55 (hr.v hl) hp hs] at h1 h2
  exact ⟨h1, h2⟩
def rL (l : List Int) (n : Nat) : Int := if rgB l n = true then (if n9 l ≤ 64 then 0 else 3) else 2
def fM (l : List Int) (n : Nat) : List Int := if rgB l n = true ∧ n9 l ≤ 64 then x9 l else []
def vS (l : List Int) (n : Nat) : Nat := if rgB l n = true ∧ n9 l ≤ 64 then n9 l else 0
theorem wH {l : List Int} {n : Nat} (h : rgB l n = false) : rL l n = 2 ∧ fM l n = [] ∧ vS l n = 0 := by
  unfold rL fM vS; rw [h]
  exact ⟨if_neg kh8, if_neg fun h => absurd h.1 kh8, if_neg fun h => absurd h.1 kh8⟩
theorem k7n {l : List Int} {n : Nat} (h : rgB l n = true) (h2 : 64 < n9 l) : rL l n = 3 ∧ fM l n = [] ∧ vS l n = 0 := by
  unfold rL fM vS
  rw [if_pos h]
  exact ⟨if_neg (by omega), if_neg fun h => by omega, if_neg fun h => by omega⟩
theorem wG {l : List Int} {n : Nat} (h : rgB l n = true) (h2 : n9 l ≤ 64) : rL l n = 0 ∧ fM l n = x9 l ∧ vS l n = n9 l := by
  unfold rL fM vS
  rw [if_pos h]
  exact ⟨if_pos h2, if_pos ⟨h, h2⟩, if_pos ⟨h, h2⟩⟩
theorem lA (l : List Int) (n : Nat) : (fM l n).length = vS l n * 2 := by
  unfold fM vS; split
  · exact k27 l
  · rfl
theorem pD (l : List Int) (n : Nat) : (0 ≤ rL l n ∧ rL l n ≤ 3) ∧ vS l n ≤ 64 := by
  constructor
  · unfold rL; (repeat' split) <;> omega
  · unfold vS; split <;> omega
theorem k7p {l : List Int} {n : Nat} (hl : l.length = n * 2) : cY (uF (fM l n)) := by
  unfold fM; split
  · rename_i h; unfold x9; rw [o4]; exact (k7m ((mL.1 h.1).v hl)).1
  · trivial
theorem u6i {l : List Int} {n : Nat} (hl : l.length = n * 2) : eX (fM l n) (vS l n) = true := (cI (lA l n)).2 ⟨(pD l n).2, k7p hl⟩
/-! members -/
def dK (l : List Int) (x : Int) : Bool := (uF l).any fun p => decide (p.1 ≤ x ∧ x ≤ p.2)
theorem aV {l : List Int} {x : Int} : dK l x = true ↔ dH (uF l) x := by
  unfold dK dH
  rw [kg9]
  constructor
  · rintro ⟨p, hp, h⟩; exact ⟨p, hp, of_decide_eq_true h⟩
  · rintro ⟨p, hp, h⟩; exact ⟨p, hp, decide_eq_true h⟩
theorem k8d {l : List Int} {n k : Nat} {x : Int} (hl : l.length = n * 2) (hk : k < n) (h : ka1 l (k * 2) 0 ≤ x ∧ x ≤ ka1 l (k * 2 + 1) 0) : dK l x = true := aV.2 ⟨_, (yF hl).2 ⟨k, hk, rfl⟩, h⟩
theorem v0e {l : List Int} {n : Nat} {x : Int} (hl : l.length = n * 2) (h : ∀ j, j < n → ¬ (ka1 l (j * 2) 0 ≤ x ∧ x ≤ ka1 l (j * 2 + 1) 0)) : dK l x = false := by
  cases hb : dK l x with
  | false => rfl
  | true =>
    obtain ⟨p, hp, h1⟩ := aV.1 hb
    obtain ⟨j, hj, rfl⟩ := (yF hl).1 hp
    exact absurd h1 (h j hj)
/-! inside -/
def coB (b : List Int) (p q : Int) : Bool := (uF b).any (ctE (p, q))
theorem v2t {b : List Int} {m k : Nat} {p q : Int} (hl : b.length = m * 2) (hk : k < m) (h : ka1 b (k * 2) 0 ≤ p ∧ q ≤ ka1 b (k * 2 + 1) 0) : coB b p q = true := by
  unfold coB
  rw [kg9]
  exact ⟨_, (yF hl).2 ⟨k, hk, rfl⟩, decide_eq_true h⟩
theorem v2u {b : List Int} {m : Nat} {p q : Int} (hl : b.length = m * 2) (h : ∀ j, j < m → ¬ (ka1 b (j * 2) 0 ≤ p ∧ q ≤ ka1 b (j * 2 + 1) 0)) : coB b p q = false := by
  cases hb : coB b p q with
  | false => rfl
  | true =>
    unfold coB at hb
    rw [kg9] at hb
    obtain ⟨r, hr, h1⟩ := hb
    obtain ⟨j, hj, rfl⟩ := (yF hl).1 hr
    exact absurd (of_decide_eq_true h1) (h j hj)
def inB (a b : List Int) : Bool := inP (uF a) (uF b)
theorem v0c {a b : List Int} {n : Nat} (hl : a.length = n * 2) (h : ∀ j, j < n → coB b (ka1 a (j * 2) 0) (ka1 a (j * 2 + 1) 0) = true) : inB a b = true := by
  unfold inB inP
  rw [kf1]
  intro p hp
  obtain ⟨j, hj, rfl⟩ := (yF hl).1 hp
  exact h j hj
theorem v0d {a b : List Int} {n k : Nat} (hl : a.length = n * 2) (hk : k < n) (h : coB b (ka1 a (k * 2) 0) (ka1 a (k * 2 + 1) 0) = false) : inB a b = false := by
  cases hb : inB a b with
  | false => rfl
  | true =>
    unfold inB inP at hb
    rw [kf1] at hb
    have := hb _ ((yF hl).2 ⟨k, hk, rfl⟩)
    exact absurd (h.symm.trans this) (by decide)
/-! the nearest -/
def NR (n : Int) (l : List Int) (i : Nat) (b : Int) (f : Bool) : Prop := nrP n (ka5 i (uF l)) none = (if f = true then some b else none) ∧ (f = false → b = 0)
theorem n6 (n : Int) (p : Sp) : ∀ (s : List Sp) (o : Option Int), nrP n (s ++ [p]) o = match nrP n s o with
    | none => some (jN n p)
    | some v => if vA (jN n p) n < vA v n then some (jN n p) else some v
  | [], o => rfl
  | q :: s, o => n6 n p s _
theorem NR.zero (n : Int) (l : List Int) : NR n l 0 0 false := ⟨rfl, fun _ => rfl⟩
theorem NR.first {n : Int} {l : List Int} {i m : Nat} {b v : Int} (h : NR n l i b false) (hl : l.length = m * 2) (hi : i < m) (hv : v = jN n (ka1 l (i * 2) 0, ka1 l (i * 2 + 1) 0)) : NR n l (i + 1) v true := by
  refine ⟨?_, fun h => by cases h⟩
  rw [yQ hl hi, n6, h.1, hv]; rfl
theorem NR.near {n : Int} {l : List Int} {i m : Nat} {b v : Int} (h : NR n l i b true) (hl : l.length = m * 2) (hi : i < m) (hv : v = jN n (ka1 l (i * 2) 0, ka1 l (i * 2 + 1) 0)) (hd : vA v n < vA b n) : NR n l (i + 1) v true := by
  refine ⟨?_, fun h => by cases h⟩
  rw [yQ hl hi, n6, h.1, ← hv]
  show (if vA v n < vA b n then some v else some b) = some v
  rw [if_pos hd]
theorem NR.far {n : Int} {l : List Int} {i m : Nat} {b v : Int} (h : NR n l i b true) (hl : l.length = m * 2) (hi : i < m) (hd : ¬ vA v n < vA b n) (hv : v = jN n (ka1 l (i * 2) 0, ka1 l (i * 2 + 1) 0)) : NR n l (i + 1) b true := by
  refine ⟨?_, fun h => by cases h⟩
  rw [yQ hl hi, n6, h.1, ← hv]
  show (if vA v n < vA b n then some v else some b) = some b
  rw [if_neg hd]
def q9 (n : Int) (l : List Int) : Int := (nrP n (uF l) none).getD 0
def nrF (n : Int) (l : List Int) : Bool := (nrP n (uF l) none).isSome
theorem NR.fin {n : Int} {l : List Int} {i m : Nat} {b : Int} {f : Bool} (h : NR n l i b f) (hl : l.length = m * 2) (hi : m ≤ i) : q9 n l = b ∧ nrF n l = f := by
  have h1 := h.1
  rw [kb7 (by rw [qW hl]; exact hi)] at h1
  unfold q9 nrF
  rw [h1]
  cases f with
  | true => exact ⟨rfl, rfl⟩
  | false => exact ⟨(h.2 rfl).symm, rfl⟩
/-! intersections -/
def uM (a b : List Int) : List Int := fl (ka5 64 (fD (uF a) (uF b)))
def qM (a b : List Int) : Nat := (ka5 64 (fD (uF a) (uF b))).length
theorem uR (a b : List Int) : (uM a b).length = qM a b * 2 := fH _
theorem aO (a b : List Int) : qM a b ≤ 64 := by unfold qM; rw [kb2]; omega
structure IX (a b : List Int) (i j k : Nat) (out : List Int) : Prop where
  ex : ∃ q, out = fl q ∧ q.length = k ∧ q ++ fD (ka3 i (uF a)) (ka3 j (uF b)) = fD (uF a) (uF b)
theorem IX.zero (a b : List Int) : IX a b 0 0 0 [] := ⟨[], rfl, rfl, rfl⟩
theorem IX.len {a b out : List Int} {i j k : Nat} (h : IX a b i j k out) : out.length = k * 2 := by
  obtain ⟨q, rfl, rfl, _⟩ := h; exact fH q
theorem pA : ∀ (k : Nat) {s : List Sp}, cY s → cY (ka3 k s)
  | 0, _, h => h
  | k + 1, [], _ => trivial
  | k + 1, p :: s, h => pA k h.2.2
theorem IX.put {a b out o : List Int} {n m i j k : Nat} {u v : Int} (h : IX a b i j k out) (ha : a.length = n * 2) (hb : b.length = m * 2) (oa : cY (uF a)) (ob : cY (uF b)) (hi : i < n) (hj : j < m) (hu : u = max (ka1 a (i * 2) 0) (ka1 b (j * 2) 0)) (hv : v = min (ka1 a (i * 2 + 1) 0) (ka1 b (j * 2 + 1) 0)) (ho : (u ≤ v ∧ o = out ++ [u, v]) ∨ (¬ u ≤ v ∧ o = out)) :
    (ka1 a (i * 2 + 1) 0 < ka1 b (j * 2 + 1) 0 → IX a b (i + 1) j (if u ≤ v then k + 1 else k) o) ∧ (¬ ka1 a (i * 2 + 1) 0 < ka1 b (j * 2 + 1) 0 → IX a b i (j + 1) (if u ≤ v then k + 1 else k) o) := by
  obtain ⟨q, e1, e2, e3⟩ := h
  rw [cN ha hi, cN hb hj] at e3
  have oa2 := pA i oa
  have ob2 := pA j ob
  rw [cN ha hi] at oa2
  rw [cN hb hj] at ob2
  have hE : oA (ka1 a (i * 2) 0, ka1 a (i * 2 + 1) 0) (ka1 b (j * 2) 0, ka1 b (j * 2 + 1) 0) = if u ≤ v then [(u, v)] else [] := by unfold oA; rw [hu, hv]
  have hq : o = fl (q ++ (if u ≤ v then [(u, v)] else [])) ∧ (q ++ (if u ≤ v then [(u, v)] else [])).length = if u ≤ v then k + 1 else k := by
    rcases ho with ⟨h1, h2⟩ | ⟨h1, h2⟩
    · rw [if_pos h1, if_pos h1, h2, e1, jJ, ka6, e2]; exact ⟨rfl, rfl⟩
    · rw [if_neg h1, if_neg h1, h2, e1, kd7]; exact ⟨rfl, e2⟩
  constructor
  · intro hlt
    rw [k40 ob2 hlt, hE, ← cN hb hj, ← kd2] at e3
    exact ⟨_, hq.1, hq.2, e3⟩
  · intro hlt
    rw [k09 oa2 hlt, hE, ← cN ha hi, ← kd2] at e3
    exact ⟨_, hq.1, hq.2, e3⟩
theorem IX.fin {a b out : List Int} {n m i j k : Nat} (h : IX a b i j k out) (ha : a.length = n * 2) (hb : b.length = m * 2) (hk : k ≤ 64) (hf : n ≤ i ∨ m ≤ j ∨ k = 64) : out = uM a b ∧ qM a b = k := by
  obtain ⟨q, e1, e2, e3⟩ := h
  have e4 : ka5 64 (fD (uF a) (uF b)) = q := by
    rw [← e3]
    rcases ki5 k 64 with h9 | h9
    · have e5 : fD (ka3 i (uF a)) (ka3 j (uF b)) = [] := by
        rcases hf with hf | hf | hf
        · rw [kj7 (by rw [qW ha]; exact hf)]; rfl
        · rw [show ka3 j (uF b) = [] from kj7 (by rw [qW hb]; exact hf)]; exact mP _
        · omega
      rw [e5, kd7, kb7 (by omega)]
    · exact kk9 (by omega)
  unfold uM qM
  rw [e4]; exact ⟨e1, e2⟩
def AL (a b : List Int) (i k : Nat) (out : List Int) : Prop := out = fl (fD (ka5 i (uF a)) (uF b)) ∧ (fD (ka5 i (uF a)) (uF b)).length = k
def AJ (a b : List Int) (i j k : Nat) (out : List Int) : Prop := out = fl (fD (ka5 i (uF a)) (uF b) ++ zA (ka1 a (i * 2) 0, ka1 a (i * 2 + 1) 0) (ka5 j (uF b))) ∧ (fD (ka5 i (uF a)) (uF b) ++ zA (ka1 a (i * 2) 0, ka1 a (i * 2 + 1) 0) (ka5 j (uF b))).length = k
theorem AL.zero (a b : List Int) : AL a b 0 0 [] := ⟨rfl, rfl⟩
theorem AL.in {a b out : List Int} {i k : Nat} (h : AL a b i k out) : AJ a b i 0 k out := by
  unfold AJ
  rw [show zA (ka1 a (i * 2) 0, ka1 a (i * 2 + 1) 0) (ka5 0 (uF b)) = [] from rfl, kd7]; exact h
theorem k0a (p : Sp) (s : List Sp) (q : Sp) : zA p (s ++ [q]) = zA p s ++ oA p q := by unfold zA; rw [kj8]; simp
theorem k87 (s : List Sp) (p : Sp) (b : List Sp) : fD (s ++ [p]) b = fD s b ++ zA p b := by unfold fD; rw [kj8]; simp
theorem AJ.y {a b out o : List Int} {m i j k : Nat} {u v : Int} (h : AJ a b i j k out) (hb : b.length = m * 2) (hj : j < m) (hu : u = max (ka1 a (i * 2) 0) (ka1 b (j * 2) 0)) (hv : v = min (ka1 a (i * 2 + 1) 0) (ka1 b (j * 2 + 1) 0)) (h1 : u ≤ v) (ho : o = out ++ [u, v]) : AJ a b i (j + 1) (k + 1) o := by
  have hE : oA (ka1 a (i * 2) 0, ka1 a (i * 2 + 1) 0) (ka1 b (j * 2) 0, ka1 b (j * 2 + 1) 0) = [(u, v)] := by
    unfold oA; rw [← hu, ← hv, if_pos h1]
  unfold AJ
  rw [yQ hb hj, k0a, hE, ← kd2, jJ, ka6, ← h.1, h.2, ho]; exact ⟨rfl, rfl⟩
theorem AJ.n {a b out : List Int} {m i j k : Nat} (h : AJ a b i j k out) (hb : b.length = m * 2) (hj : j < m) (h1 : ¬ max (ka1 a (i * 2) 0) (ka1 b (j * 2) 0) ≤ min (ka1 a (i * 2 + 1) 0) (ka1 b (j * 2 + 1) 0)) : AJ a b i (j + 1) k out := by
  have hE : oA (ka1 a (i * 2) 0, ka1 a (i * 2 + 1) 0) (ka1 b (j * 2) 0, ka1 b (j * 2 + 1) 0) = [] := by
    unfold oA; rw [if_neg h1]
  unfold AJ
  rw [yQ hb hj, k0a, hE, kd7]; exact h
theorem AJ.out {a b out : List Int} {n m i j k : Nat} (h : AJ a b i j k out) (ha : a.length = n * 2) (hi : i < n) (hb : b.length = m * 2) (hj : m ≤ j) : AL a b (i + 1) k out := by
  unfold AJ at h
  rw [kb7 (l := uF b) (by rw [qW hb]; exact hj), ← k87, ← yQ ha hi] at h
  exact h
theorem AL.fin {a b out : List Int} {n i k : Nat} (h : AL a b i k out) (ha : a.length = n * 2) (hi : n ≤ i) : out = fl (fD (uF a) (uF b)) ∧ (fD (uF a) (uF b)).length = k := by
  unfold AL at h
  rw [kb7 (by rw [qW ha]; exact hi)] at h; exact h
def jR (a b : List Int) : List Int := fl (fD (uF a) (uF b))
def aW (a b : List Int) : Nat := (fD (uF a) (uF b)).length
theorem jQ (a b : List Int) : (jR a b).length = aW a b * 2 := fH _
theorem k43 : ∀ (k : Nat) (s : List Sp), fl (ka5 k s) = ka5 (k * 2) (fl s)
  | 0, s => by rw [Nat.zero_mul]; rfl
  | k + 1, [] => by simp [fl]
  | k + 1, p :: s => by
    show p.1 :: p.2 :: fl (ka5 k s) = _
    rw [k43 k s, show (k + 1) * 2 = k * 2 + 1 + 1 by omega]; rfl
theorem v0a {a b : List Int} {k : Nat} (hk : k = min (aW a b) 64) : uM a b = ka5 (k * 2) (jR a b) ∧ qM a b = k := by
  unfold uM qM jR
  rw [kb2, ← k43, hk]
  refine ⟨?_, by unfold aW; omega⟩
  congr 1
  unfold aW
  rcases ki5 (fD (uF a) (uF b)).length 64 with h | h
  · rw [Nat.min_eq_left (by omega), kb7 (by omega), kb7 (kc2 _)]
  · rw [Nat.min_eq_right h]
theorem u0o {a b : List Int} {n m : Nat} (ha : a.length = n * 2) (hb : b.length = m * 2) (oa : cY (uF a)) (ob : cY (uF b)) : aW a b ≤ n + m := by
  have := wP _ (uF a) (uF b) (kc2 _) oa ob
  rw [qW ha, qW hb] at this; exact this
theorem k8f {o : List Int} {k n : Nat} {p : Int} (h : ∀ j, k ≤ j → j < n → p < ka1 o (j * 2) 0) (h1 : p < ka1 o ((k - 1) * 2) 0) (hk : 1 ≤ k) : ∀ j, k - 1 ≤ j → j < n → p < ka1 o (j * 2) 0 := fun j hj hn => by
  rcases ki5 j k with h7 | h7
  · rw [show j = k - 1 by omega]; exact h1
  · exact h j h7 hn
theorem jU {l : List Int} {k : Nat} (ha : ∀ j, j < k → vaE l j = true) (h : 1 ≤ k) : 0 ≤ ka1 l ((k - 1) * 2 + 1) 0 ∧ ka1 l ((k - 1) * 2 + 1) 0 ≤ 2147483647 := by
  have := of_decide_eq_true (ha (k - 1) (by omega)); omega
theorem u41 {l : List Int} {n : Nat} (hl : l.length = n * 2) : RG (kC l n) (kP l n) := u14 (kU hl) (gE (uG hl))
theorem IX.ly {a b out : List Int} {n m i j k : Nat} {u v : Int} (h : IX a b i j k out) (ha : a.length = n * 2) (hb : b.length = m * 2) (oa : cY (uF a)) (ob : cY (uF b)) (hi : i < n) (hj : j < m) (hu : u = max (ka1 a (i * 2) 0) (ka1 b (j * 2) 0)) (hv : v = min (ka1 a (i * 2 + 1) 0) (ka1 b (j * 2 + 1) 0)) (h1 : u ≤ v) (h2 : ka1 a (i * 2 + 1) 0 < ka1 b (j * 2 + 1) 0) : IX a b (i + 1) j (k + 1) (out ++ [u, v]) := by
  have h9 := (h.put ha hb oa ob hi hj hu hv (.inl ⟨h1, rfl⟩)).1 h2
  rw [if_pos h1] at h9; exact h9
theorem IX.ln {a b out : List Int} {n m i j k : Nat} (h : IX a b i j k out) (ha : a.length = n * 2) (hb : b.length = m * 2) (oa : cY (uF a)) (ob : cY (uF b)) (hi : i < n) (hj : j < m) (h1 : ¬ max (ka1 a (i * 2) 0) (ka1 b (j * 2) 0) ≤ min (ka1 a (i * 2 + 1) 0) (ka1 b (j * 2 + 1) 0)) (h2 : ka1 a (i * 2 + 1) 0 < ka1 b (j * 2 + 1) 0) : IX a b (i + 1) j k out := by
  have h9 := (h.put ha hb oa ob hi hj rfl rfl (.inr ⟨h1, rfl⟩)).1 h2
  rw [if_neg h1] at h9; exact h9
theorem IX.ry {a b out : List Int} {n m i j k : Nat} {u v : Int} (h : IX a b i j k out) (ha : a.length = n * 2) (hb : b.length = m * 2) (oa : cY (uF a)) (ob : cY (uF b)) (hi : i < n) (hj : j < m) (hu : u = max (ka1 a (i * 2) 0) (ka1 b (j * 2) 0)) (hv : v = min (ka1 a (i * 2 + 1) 0) (ka1 b (j * 2 + 1) 0)) (h1 : u ≤ v) (h2 : ¬ ka1 a (i * 2 + 1) 0 < ka1 b (j * 2 + 1) 0) : IX a b i (j + 1) (k + 1) (out ++ [u, v]) := by
  have h9 := (h.put ha hb oa ob hi hj hu hv (.inl ⟨h1, rfl⟩)).2 h2
  rw [if_pos h1] at h9; exact h9
theorem IX.rn {a b out : List Int} {n m i j k : Nat} (h : IX a b i j k out) (ha : a.length = n * 2) (hb : b.length = m * 2) (oa : cY (uF a)) (ob : cY (uF b)) (hi : i < n) (hj : j < m) (h1 : ¬ max (ka1 a (i * 2) 0) (ka1 b (j * 2) 0) ≤ min (ka1 a (i * 2 + 1) 0) (ka1 b (j * 2 + 1) 0)) (h2 : ¬ ka1 a (i * 2 + 1) 0 < ka1 b (j * 2 + 1) 0) : IX a b i (j + 1) k out := by
  have h9 := (h.put ha hb oa ob hi hj rfl rfl (.inr ⟨h1, rfl⟩)).2 h2
  rw [if_neg h1] at h9; exact h9
theorem dp1 {A : List Int} {i n : Nat} (h : A.length = n * 2) : dI .i64 (ka3 ((i + 1) * 2) A) = dI .i64 (ka5 ((n - i - 1) * 2) (ka3 2 (ka3 (i * 2) A))) := by
  rw [List.drop_drop, kb7 (by rw [kb3]; omega), show i * 2 + 2 = (i + 1) * 2 by omega]
/-! the first span that holds another one -/
def oC (b : List Int) (u v : Int) : Nat → Int
  | 0 => -1
  | k + 1 => if 0 ≤ oC b u v k then oC b u v k else if ka1 b (k * 2) 0 ≤ u ∧ v ≤ ka1 b (k * 2 + 1) 0 then (k : Int) else -1
theorem k4a {b : List Int} {u v : Int} {k : Nat} (h : oC b u v k = -1) (h2 : ¬ (ka1 b (k * 2) 0 ≤ u ∧ v ≤ ka1 b (k * 2 + 1) 0)) : oC b u v (k + 1) = -1 := by
  show (if 0 ≤ oC b u v k then _ else _) = _
  rw [if_neg (by omega), if_neg h2]
theorem xG {b : List Int} {u v : Int} {k : Nat} (h : oC b u v k = -1) (h2 : ka1 b (k * 2) 0 ≤ u ∧ v ≤ ka1 b (k * 2 + 1) 0) : ∀ n, k < n → oC b u v n = (k : Int)
  | n + 1, hn => by
    by_cases hk : k = n
    · subst hk
      show (if 0 ≤ oC b u v k then _ else _) = _
      rw [if_neg (by omega), if_pos h2]
    · have := xG h h2 n (by omega)
      show (if 0 ≤ oC b u v n then _ else _) = _
      rw [if_pos (by omega)]; exact this
theorem xF (b : List Int) (u v : Int) : ∀ n, (oC b u v n = -1 ∧ ∀ j, j < n → ¬ (ka1 b (j * 2) 0 ≤ u ∧ v ≤ ka1 b (j * 2 + 1) 0)) ∨ ∃ k, k < n ∧ oC b u v n = (k : Int) ∧ ka1 b (k * 2) 0 ≤ u ∧ v ≤ ka1 b (k * 2 + 1) 0
  | 0 => .inl ⟨rfl, fun j hj => absurd hj (Nat.not_lt_zero j)⟩
  | n + 1 => by
    rcases xF b u v n with ⟨h, h2⟩ | ⟨k, h1, h2, h3⟩
    · by_cases h9 : ka1 b (n * 2) 0 ≤ u ∧ v ≤ ka1 b (n * 2 + 1) 0
      · exact .inr ⟨n, by omega, xG h h9 _ (by omega), h9⟩
      · exact .inl ⟨k4a h h9, fun j hj => (Nat.lt_succ_iff_lt_or_eq.1 hj).elim (h2 j) (fun e => by subst e; exact h9)⟩
    · refine .inr ⟨k, by omega, ?_, h3⟩
      show (if 0 ≤ oC b u v n then _ else _) = _
      rw [if_pos (by omega)]; exact h2
theorem v0q {b : List Int} {u v : Int} {m : Nat} (hb : b.length = m * 2) (h : 0 ≤ oC b u v m) : coB b u v = true := by
  rcases xF b u v m with ⟨h1, _⟩ | ⟨k, h1, _, h3⟩
  · omega
  · exact v2t hb h1 h3
theorem v0r {b : List Int} {u v : Int} {m : Nat} (hb : b.length = m * 2) (h : ¬ 0 ≤ oC b u v m) : coB b u v = false := by
  rcases xF b u v m with ⟨_, h1⟩ | ⟨k, _, h1, _⟩
  · exact v2u hb h1
  · omega
def CJ (b : List Int) (u v : Int) (j : Nat) (f : Bool) : Prop := f = (ka5 j (uF b)).any (ctE (u, v))
theorem CJ.zero (b : List Int) (u v : Int) : CJ b u v 0 false := rfl
theorem CJ.yes {b : List Int} {u v : Int} {j m : Nat} (h : CJ b u v j false) (hb : b.length = m * 2) (hj : j < m) (h1 : ka1 b (j * 2) 0 ≤ u ∧ v ≤ ka1 b (j * 2 + 1) 0) : CJ b u v (j + 1) true := by
  unfold CJ at *; rw [yQ hb hj, kl0, ← h]
  show true = (decide _ || false)
  rw [decide_eq_true (show ka1 b (j * 2) 0 ≤ u ∧ v ≤ ka1 b (j * 2 + 1) 0 from h1)]; rfl
theorem CJ.no {b : List Int} {u v : Int} {j m : Nat} (h : CJ b u v j false) (hb : b.length = m * 2) (hj : j < m) (h1 : ¬ (ka1 b (j * 2) 0 ≤ u ∧ v ≤ ka1 b (j * 2 + 1) 0)) : CJ b u v (j + 1) false := by
  unfold CJ at *; rw [yQ hb hj, kl0, ← h]
  show false = (decide _ || false)
  rw [decide_eq_false (show ¬ (ka1 b (j * 2) 0 ≤ u ∧ v ≤ ka1 b (j * 2 + 1) 0) from h1)]; rfl
theorem CJ.fin {b : List Int} {u v : Int} {j m : Nat} {f : Bool} (h : CJ b u v j f) (hb : b.length = m * 2) (hj : m ≤ j) : coB b u v = f := by
  unfold CJ at h; rw [kb7 (by rw [qW hb]; exact hj)] at h; exact h.symm
theorem gL {a b : Int} : 0 ≤ vA a b := by unfold vA; split <;> omega
theorem vG (x : Int) : IntKind.u64.wrap x = x % 18446744073709551616 := by simp [IntKind.wrap, IntKind.bits, IntKind.signed]
end Go.Proofs.YtcfmjpnffembpaaGreat
