/- Sets of integers. No statement is proved here. -/
import Derived.Test.YtcfmjpnffembpaaGreatZLBy
namespace Go.Proofs.YtcfmjpnffembpaaGreat
open Go.ChangeShapes Go.WideShapes Go.ChangeAt Go.RowKit
open Bool renaming false_ne_true → kj8
open Int renaming le_refl → ke0
open List renaming all_eq_true → kf9, any_append → ko0, any_eq_true → ki3, append_assoc → kd3, append_nil → kd9, drop → ka3, drop_of_length_le → km0, eq_nil_of_length_eq_zero → kd2, flatMap_append → km3, getD → ka1, getElem?_drop → ke6, getElem?_eq_getElem → ka8, length_append → ka6, length_cons → kb0, length_drop → kb3, length_nil → kb1, length_reverse → kc0, length_take → kb2, mem_cons_of_mem → kb9, mem_cons_self → kb5, mem_of_getElem? → ke1, mem_of_mem_take → ki2, reverse_cons → kg5, take → ka5, take_append_drop → kh4, take_left' → kn9, take_of_length_le → kb7
open Nat renaming eq_zero_or_pos → kn1, le_refl → kc3, lt_or_ge → kk5, zero_le → ke3
set_option linter.unusedVariables false
set_option linter.unusedSimpArgs false
/-! sets of integers: spans as pairs -/
abbrev Sp := Int × Int
def fL (p : Sp) : Prop := 0 ≤ p.1 ∧ p.1 ≤ p.2 ∧ p.2 ≤ 2147483647
def cY : List Sp → Prop
  | [] => True
  | p :: r => fL p ∧ (∀ q ∈ r, p.2 + 1 < q.1) ∧ cY r
def dG (ps : List Sp) (x : Int) : Prop := ∃ p ∈ ps, p.1 ≤ x ∧ x ≤ p.2
theorem gY (x : Int) : ¬ dG [] x := fun ⟨p, h, _⟩ => by cases h
theorem q6 {p : Sp} {r : List Sp} {x : Int} : dG (p :: r) x ↔ (p.1 ≤ x ∧ x ≤ p.2) ∨ dG r x := by
  constructor
  · rintro ⟨q, hq, h⟩
    rcases List.mem_cons.1 hq with rfl | hq
    · exact .inl h
    · exact .inr ⟨q, hq, h⟩
  · rintro (h | ⟨q, hq, h⟩)
    · exact ⟨p, kb5 .., h⟩
    · exact ⟨q, kb9 _ hq, h⟩
theorem gF : ∀ {ps : List Sp}, cY ps → ∀ p ∈ ps, fL p
  | [], _, p, hp => by cases hp
  | q :: r, h, p, hp => by
    rcases List.mem_cons.1 hp with rfl | hp
    · exact h.1
    · exact gF h.2.2 p hp
theorem gG {p : Sp} {r : List Sp} (h : ∀ q ∈ r, p.2 + 1 < q.1) {x : Int} (hx : dG r x) : p.2 + 1 < x := by
  obtain ⟨q, hq, h1, _⟩ := hx
  have := h q hq; omega
theorem k7j : ∀ {a b : List Sp}, cY a → cY b → (∀ x, dG a x ↔ dG b x) → a = b
  | [], [], _, _, _ => rfl
  | [], q :: r, _, hb, h => absurd ((h q.1).2 (q6.2 (.inl ⟨ke0 _, hb.1.2.1⟩))) (gY _)
  | p :: r, [], ha, _, h => absurd ((h p.1).1 (q6.2 (.inl ⟨ke0 _, ha.1.2.1⟩))) (gY _)
  | p :: r, q :: s, ha, hb, h => by
    have m1 : dG (p :: r) p.1 := q6.2 (.inl ⟨ke0 _, ha.1.2.1⟩)
    have m2 : dG (q :: s) q.1 := q6.2 (.inl ⟨ke0 _, hb.1.2.1⟩)
    have v1 := ha.1; have v2 := hb.1
    unfold fL at v1 v2
    have e1 : p.1 = q.1 := by
      have n1 := q6.1 ((h _).1 m1)
      have n2 := q6.1 ((h _).2 m2)
      have g1 : dG s p.1 → q.2 + 1 < p.1 := gG hb.2.1
      have g2 : dG r q.1 → p.2 + 1 < q.1 := gG ha.2.1
      rcases n1 with n1 | n1
      · rcases n2 with n2 | n2
        · omega
        · have := g2 n2; omega
      · have := g1 n1
        rcases n2 with n2 | n2
        · omega
        · have := g2 n2; omega
    have no1 : ¬ dG (p :: r) (p.2 + 1) := fun hh => by
      rcases q6.1 hh with hh | hh
      · omega
      · have := gG ha.2.1 hh; omega
    have no2 : ¬ dG (q :: s) (q.2 + 1) := fun hh => by
      rcases q6.1 hh with hh | hh
      · omega
      · have := gG hb.2.1 hh; omega
    have e2 : p.2 = q.2 := by
      rcases Int.lt_trichotomy p.2 q.2 with hlt | heq | hgt
      · exact absurd ((h (p.2 + 1)).2 (q6.2 (.inl ⟨by omega, by omega⟩))) no1
      · exact heq
      · exact absurd ((h (q.2 + 1)).1 (q6.2 (.inl ⟨by omega, by omega⟩))) no2
    obtain ⟨a, b⟩ := p
    obtain ⟨c, d⟩ := q
    obtain rfl : a = c := e1
    obtain rfl : b = d := e2
    congr 1
    refine k7j ha.2.2 hb.2.2 fun x => ?_
    have hx := h x
    rw [q6, q6] at hx
    constructor
    · intro hr
      have := gG ha.2.1 hr
      rcases hx.1 (.inr hr) with h9 | h9
      · exfalso; simp only at this h9; omega
      · exact h9
    · intro hr
      have := gG hb.2.1 hr
      rcases hx.2 (.inr hr) with h9 | h9
      · exfalso; simp only at this h9; omega
      · exact h9
/-! spans that are joined: the last span first -/
def mO (o : List Sp) (x : Sp) : List Sp := match o with
  | [] => [x]
  | l :: r => if x.1 ≤ l.2 + 1 then (l.1, max l.2 x.2) :: r else x :: l :: r
def okR : List Sp → Prop
  | [] => True
  | p :: r => fL p ∧ (∀ q ∈ r, q.2 + 1 < p.1) ∧ okR r
theorem k3q : ∀ {o : List Sp} {r : List Sp}, okR o → cY r → (∀ p ∈ o, ∀ q ∈ r, p.2 + 1 < q.1) → cY (o.reverse ++ r)
  | [], r, _, h, _ => h
  | p :: o, r, ho, hr, h => by
    rw [kg5, kd3]
    refine k3q ho.2.2 ⟨ho.1, fun q hq => h p (kb5 ..) q hq, hr⟩ fun a ha b hb => ?_
    rcases List.mem_cons.1 hb with rfl | hb
    · exact ho.2.1 a ha
    · exact h a (kb9 _ ha) b hb
theorem u6o (o : List Sp) (x : Sp) : (mO o x).length ≤ o.length + 1 := by
  unfold mO
  cases o with
  | nil => exact kc3 _
  | cons l r => show (if _ then _ else _ : List Sp).length ≤ _; split <;> simp
theorem v04 {o : List Sp} {x : Sp} (h : okR o) (hx : fL x) (hl : ∀ l r, o = l :: r → l.1 ≤ x.1) : okR (mO o x) := by
  cases o with
  | nil => exact ⟨hx, fun q hq => (by cases hq), trivial⟩
  | cons l r =>
    have h1 := hl l r rfl
    have hv := h.1
    unfold fL at hv hx
    show okR (if _ then _ else _)
    split
    · refine ⟨⟨hv.1, ?_, ?_⟩, h.2.1, h.2.2⟩
      · show l.1 ≤ max l.2 x.2; omega
      · show max l.2 x.2 ≤ _; omega
    · refine ⟨hx, fun q hq => ?_, h⟩
      rcases List.mem_cons.1 hq with rfl | hq
      · omega
      · have := h.2.1 q hq; omega
theorem v05 {o : List Sp} {x : Sp} (h : okR o) (hx : fL x) (hl : ∀ l r, o = l :: r → l.1 ≤ x.1) (z : Int) : dG (mO o x) z ↔ dG o z ∨ (x.1 ≤ z ∧ z ≤ x.2) := by
  cases o with
  | nil => show dG [x] z ↔ _; rw [q6]; exact or_comm
  | cons l r =>
    have h1 := hl l r rfl
    have hv := h.1
    unfold fL at hv hx
    show dG (if _ then _ else _) z ↔ _
    split
    · rw [q6, q6]
      show (l.1 ≤ z ∧ z ≤ max l.2 x.2) ∨ _ ↔ _
      constructor
      · rintro (h9 | h9)
        · by_cases h8 : z ≤ l.2
          · exact .inl (.inl ⟨h9.1, h8⟩)
          · exact .inr ⟨by omega, by omega⟩
        · exact .inl (.inr h9)
      · rintro ((h9 | h9) | h9)
        · exact .inl ⟨h9.1, by omega⟩
        · exact .inr h9
        · exact .inl ⟨by omega, by omega⟩
    · rw [q6]; exact or_comm
theorem u29 {o : List Sp} {x : Sp} (hl : ∀ l r, o = l :: r → l.1 ≤ x.1) : ∀ l r, mO o x = l :: r → l.1 ≤ x.1 := by
  intro l r e
  cases o with
  | nil => have e : [x] = l :: r := e; cases e; exact ke0 _
  | cons a s =>
    have h1 := hl a s rfl
    have e : (if x.1 ≤ a.2 + 1 then (a.1, max a.2 x.2) :: s else x :: a :: s) = l :: r := e
    split at e
    · cases e; exact h1
    · cases e; exact ke0 _
def jnR (s : List Sp) : List Sp := s.foldl mO []
def srP (s : List Sp) : Prop := s.Pairwise fun a b => a.1 ≤ b.1
theorem k89 : ∀ (s o : List Sp), okR o → (∀ p ∈ s, fL p) → srP s → (∀ l r, o = l :: r → ∀ p ∈ s, l.1 ≤ p.1) → okR (s.foldl mO o) ∧ (∀ z, dG (s.foldl mO o) z ↔ dG o z ∨ dG s z) ∧ (s.foldl mO o).length ≤ o.length + s.length
  | [], o, h, _, _, _ => ⟨h, fun z => ⟨.inl, fun h => h.elim id fun h => absurd h (gY _)⟩, kc3 _⟩
  | x :: s, o, h, hv, hs, hl => by
    have hx := hv x (kb5 ..)
    have hl1 : ∀ l r, o = l :: r → l.1 ≤ x.1 := fun l r e => hl l r e x (kb5 ..)
    obtain ⟨h1, h2⟩ := List.pairwise_cons.1 hs
    obtain ⟨i1, i2, i3⟩ := k89 s (mO o x) (v04 h hx hl1) (fun p hp => hv p (kb9 _ hp)) h2 (fun l r e p hp => by have := u29 hl1 l r e; have := h1 p hp; omega)
    refine ⟨i1, fun z => ?_, ?_⟩
    · show dG (s.foldl mO (mO o x)) z ↔ _
      rw [i2 z, v05 h hx hl1 z, q6, or_assoc]
    · show (s.foldl mO (mO o x)).length ≤ _
      have := u6o o x
      simp only [kb0]; omega
def jnP (s : List Sp) : List Sp := (jnR s).reverse
theorem k88 {s : List Sp} (hv : ∀ p ∈ s, fL p) (hs : srP s) : cY (jnP s) ∧ (∀ z, dG (jnP s) z ↔ dG s z) ∧ (jnP s).length ≤ s.length := by
  obtain ⟨h1, h2, h3⟩ := k89 s [] trivial hv hs (fun l r e => by cases e)
  refine ⟨?_, fun z => ?_, ?_⟩
  · have := k3q (r := []) h1 trivial (fun _ _ q hq => by cases hq)
    rw [kd9] at this; exact this
  · have e : dG (jnP s) z ↔ dG (jnR s) z := by
      unfold dG jnP
      simp only [List.mem_reverse]
    rw [e]
    have := h2 z
    rw [show s.foldl mO [] = jnR s from rfl] at this
    rw [this]
    exact ⟨fun h => h.elim (fun h => absurd h (gY _)) id, .inr⟩
  · unfold jnP jnR; rw [kc0]
    have : (s.foldl mO []).length ≤ ([] : List Sp).length + s.length := h3
    rw [kb1, Nat.zero_add] at this; exact this
theorem k07 {a b : List Sp} (h : a.Perm b) (z : Int) : dG a z ↔ dG b z := by
  unfold dG
  constructor
  · rintro ⟨p, hp, h9⟩; exact ⟨p, h.mem_iff.1 hp, h9⟩
  · rintro ⟨p, hp, h9⟩; exact ⟨p, h.mem_iff.2 hp, h9⟩
theorem u2h {a b : List Sp} (h : a.Perm b) (hv : ∀ p ∈ a, fL p) (ha : srP a) (hb : srP b) : jnP a = jnP b := by
  have h1 := k88 hv ha
  have h2 := k88 (s := b) (fun p hp => hv p (h.mem_iff.2 hp)) hb
  exact k7j h1.1 h2.1 fun z => (h1.2.1 z).trans ((k07 h z).trans (h2.2.1 z).symm)
/-! intersections -/
def oB (p q : Sp) : List Sp := if max p.1 q.1 ≤ min p.2 q.2 then [(max p.1 q.1, min p.2 q.2)] else []
def zE (p : Sp) (b : List Sp) : List Sp := b.flatMap (oB p)
def fE (a b : List Sp) : List Sp := a.flatMap fun p => zE p b
theorem k0h {p q : Sp} (h : p.2 < q.1 ∨ q.2 < p.1) : oB p q = [] := by unfold oB; rw [if_neg (by omega)]
theorem k0f {p : Sp} : ∀ {b : List Sp}, (∀ q ∈ b, p.2 < q.1 ∨ q.2 < p.1) → zE p b = []
  | [], _ => rfl
  | q :: b, h => by
    show oB p q ++ zE p b = []
    rw [k0h (h q (kb5 ..)), k0f fun r hr => h r (kb9 _ hr)]; rfl
theorem mQ : ∀ a : List Sp, fE a [] = []
  | [] => rfl
  | p :: a => by show zE p [] ++ fE a [] = []; rw [mQ a]; rfl
theorem k45 {x y : Sp} {a b : List Sp} (hb : cY (y :: b)) (h : x.2 < y.2) : fE (x :: a) (y :: b) = oB x y ++ fE a (y :: b) := by
  show (oB x y ++ zE x b) ++ _ = _
  rw [k0f fun q hq => .inl (by have := hb.2.1 q hq; omega), kd9]; rfl
theorem k0g {y : Sp} {b : List Sp} : ∀ {a : List Sp}, (∀ p ∈ a, y.2 < p.1) → fE a (y :: b) = fE a b
  | [], _ => rfl
  | p :: a, h => by
    show (oB p y ++ zE p b) ++ fE a (y :: b) = zE p b ++ fE a b
    rw [k0h (.inr (h p (kb5 ..))), k0g fun q hq => h q (kb9 _ hq)]; rfl
theorem k0d {x y : Sp} {a b : List Sp} (ha : cY (x :: a)) (h : ¬ x.2 < y.2) : fE (x :: a) (y :: b) = oB x y ++ fE (x :: a) b := by
  show (oB x y ++ zE x b) ++ fE a (y :: b) = oB x y ++ (zE x b ++ fE a b)
  rw [k0g fun p hp => by have := ha.2.1 p hp; omega, kd3]
theorem u2j (p q : Sp) : (oB p q).length ≤ 1 := by unfold oB; split <;> simp
theorem wT : ∀ (n : Nat) (a b : List Sp), a.length + b.length ≤ n → cY a → cY b → (fE a b).length ≤ a.length + b.length
  | _, [], b, _, _, _ => ke3 _
  | _, p :: a, [], _, _, _ => by rw [mQ]; exact ke3 _
  | 0, p :: a, q :: b, h, _, _ => by simp at h
  | n + 1, x :: a, y :: b, h, ha, hb => by
    have h1 := u2j x y
    by_cases hxy : x.2 < y.2
    · rw [k45 hb hxy, ka6]
      have := wT n a (y :: b) (by simp at h ⊢; omega) ha.2.2 hb
      simp only [kb0] at this ⊢; omega
    · rw [k0d ha hxy, ka6]
      have := wT n (x :: a) b (by simp at h ⊢; omega) ha hb.2.2
      simp only [kb0] at this ⊢; omega
theorem gX {p q r : Sp} : r ∈ oB p q ↔ max p.1 q.1 ≤ min p.2 q.2 ∧ r = (max p.1 q.1, min p.2 q.2) := by
  unfold oB
  split
  · rename_i h; rw [List.mem_singleton]; exact ⟨fun e => ⟨h, e⟩, fun e => e.2⟩
  · rename_i h; exact ⟨fun e => (by cases e), fun e => absurd e.1 h⟩
theorem wM {a b : List Sp} {r : Sp} : r ∈ fE a b ↔ ∃ p ∈ a, ∃ q ∈ b, r ∈ oB p q := by
  unfold fE zE
  simp only [List.mem_flatMap]
theorem v0e (a b : List Sp) (x : Int) : dG (fE a b) x ↔ dG a x ∧ dG b x := by
  constructor
  · rintro ⟨r, hr, h⟩
    obtain ⟨p, hp, q, hq, hr⟩ := wM.1 hr
    obtain ⟨h1, rfl⟩ := gX.1 hr
    simp only at h
    exact ⟨⟨p, hp, by omega, by omega⟩, ⟨q, hq, by omega, by omega⟩⟩
  · rintro ⟨⟨p, hp, h1⟩, ⟨q, hq, h2⟩⟩
    exact ⟨_, wM.2 ⟨p, hp, q, hq, gX.2 ⟨by omega, rfl⟩⟩, by simp only; omega, by simp only; omega⟩
theorem wG : ∀ {a b : List Sp}, cY a → cY b → (∀ p ∈ a, ∀ q ∈ b, p.2 + 1 < q.1) → cY (a ++ b)
  | [], b, _, hb, _ => hb
  | p :: a, b, ha, hb, h => ⟨ha.1, fun q hq => (List.mem_append.1 hq).elim (ha.2.1 q) (h p (kb5 ..) q), wG ha.2.2 hb fun r hr q hq => h r (kb9 _ hr) q hq⟩
theorem u6w {p q : Sp} (hp : fL p) (hq : fL q) : cY (oB p q) := by
  unfold oB
  unfold fL at hp hq
  split
  · exact ⟨⟨by show 0 ≤ max p.1 q.1; omega, by assumption, by show min p.2 q.2 ≤ _; omega⟩, fun _ h => (by cases h), trivial⟩
  · trivial
theorem k8b {p : Sp} (hp : fL p) : ∀ {b : List Sp}, cY b → cY (zE p b)
  | [], _ => trivial
  | q :: b, h => by
    refine wG (u6w hp h.1) (k8b hp h.2.2) fun r hr s hs => ?_
    obtain ⟨_, rfl⟩ := gX.1 hr
    obtain ⟨t, ht, hs⟩ := List.mem_flatMap.1 hs
    obtain ⟨_, rfl⟩ := gX.1 hs
    have := h.2.1 t ht
    simp only; omega
theorem u4h : ∀ {a b : List Sp}, cY a → cY b → cY (fE a b)
  | [], _, _, _ => trivial
  | p :: a, b, ha, hb => by
    refine wG (k8b ha.1 hb) (u4h ha.2.2 hb) fun r hr s hs => ?_
    obtain ⟨q, hq, hr⟩ := List.mem_flatMap.1 hr
    obtain ⟨_, rfl⟩ := gX.1 hr
    obtain ⟨t, ht, u, hu, hs⟩ := wM.1 hs
    obtain ⟨_, rfl⟩ := gX.1 hs
    have := ha.2.1 t ht
    simp only; omega
/-! inside -/
def ctE (p q : Sp) : Bool := decide (q.1 ≤ p.1 ∧ p.2 ≤ q.2)
def inP (a b : List Sp) : Bool := a.all fun p => b.any (ctE p)
theorem k78 : ∀ {b : List Sp} {p : Sp}, cY b → p.1 ≤ p.2 → (∀ x, p.1 ≤ x → x ≤ p.2 → dG b x) → ∃ q ∈ b, q.1 ≤ p.1 ∧ p.2 ≤ q.2
  | [], p, _, hp, h => absurd (h p.1 (ke0 _) hp) (gY _)
  | q :: b, p, hb, hp, h => by
    have hq := hb.1
    unfold fL at hq
    rcases q6.1 (h p.1 (ke0 _) hp) with h1 | h1
    · refine ⟨q, kb5 .., h1.1, ?_⟩
      apply Int.not_lt.1
      intro hlt
      rcases q6.1 (h (q.2 + 1) (by omega) (by omega)) with h2 | h2
      · omega
      · have := gG hb.2.1 h2; omega
    · have h3 := gG hb.2.1 h1
      obtain ⟨r, hr, h4⟩ := k78 (p := p) hb.2.2 hp fun x hx hx2 => by
        rcases q6.1 (h x hx hx2) with h2 | h2
        · omega
        · exact h2
      exact ⟨r, kb9 _ hr, h4⟩
theorem u6z {a b : List Sp} (ha : cY a) (hb : cY b) (h : ∀ x, dG a x → dG b x) : inP a b = true := by
  unfold inP
  rw [kf9]
  intro p hp
  have hv := gF ha p hp
  unfold fL at hv
  obtain ⟨q, hq, h1⟩ := k78 hb hv.2.1 fun x h1 h2 => h x ⟨p, hp, h1, h2⟩
  rw [ki3]
  exact ⟨q, hq, decide_eq_true h1⟩
/-! the nearest -/
def jO (n : Int) (p : Sp) : Int := max p.1 (min p.2 n)
def vA (a b : Int) : Int := if b < a then a - b else b - a
def nrP (n : Int) : List Sp → Option Int → Option Int
  | [], o => o
  | p :: r, o => nrP n r (match o with
    | none => some (jO n p)
    | some v => if vA (jO n p) n < vA v n then some (jO n p) else some v)
theorem xH {p : Sp} (hp : p.1 ≤ p.2) (n x : Int) (hx : p.1 ≤ x ∧ x ≤ p.2) : vA (jO n p) n < vA x n ∨ jO n p = x ∨ (vA (jO n p) n = vA x n ∧ jO n p ≤ x) := by
  unfold vA jO
  split <;> split <;> omega
theorem wI : ∀ (n : Int) (s : List Sp) (v : Int), ∃ w, nrP n s (some v) = some w
  | n, [], v => ⟨v, rfl⟩
  | n, p :: r, v => by
    show ∃ w, nrP n r (if vA (jO n p) n < vA v n then some (jO n p) else some v) = some w
    split
    · exact wI n r _
    · exact wI n r _
theorem wJ : ∀ (n : Int) (s : List Sp) (v w : Int), cY s → (∀ q ∈ s, v < q.1) → nrP n s (some v) = some w → (w = v ∨ dG s w) ∧ (vA w n < vA v n ∨ (vA w n = vA v n ∧ w ≤ v)) ∧ ∀ x, dG s x → vA w n < vA x n ∨ (vA w n = vA x n ∧ w ≤ x)
  | n, [], v, w, _, _, h => by
    have h : some v = some w := h
    cases h
    exact ⟨.inl rfl, .inr ⟨rfl, ke0 _⟩, fun x hx => absurd hx (gY _)⟩
  | n, p :: r, v, w, hs, hv, h => by
    have hp := hs.1
    unfold fL at hp
    have h : nrP n r (if vA (jO n p) n < vA v n then some (jO n p) else some v) = some w := h
    have hc : p.1 ≤ jO n p ∧ jO n p ≤ p.2 := by unfold jO; omega
    have hvp := hv p (kb5 ..)
    by_cases hd : vA (jO n p) n < vA v n
    · rw [if_pos hd] at h
      obtain ⟨h1, h2, h3⟩ := wJ n r (jO n p) w hs.2.2 (fun q hq => by have := hs.2.1 q hq; omega) h
      refine ⟨.inr (q6.2 (h1.imp (fun e => by rw [e]; exact hc) id)), by omega, fun x hx => ?_⟩
      rcases q6.1 hx with hx | hx
      · have := xH hp.2.1 n x hx
        rcases this with h9 | h9 | h9
        · omega
        · rw [← h9]; omega
        · omega
      · exact h3 x hx
    · rw [if_neg hd] at h
      obtain ⟨h1, h2, h3⟩ := wJ n r v w hs.2.2 (fun q hq => hv q (kb9 _ hq)) h
      refine ⟨h1.imp id (fun e => q6.2 (.inr e)), h2, fun x hx => ?_⟩
      rcases q6.1 hx with hx | hx
      · have := xH hp.2.1 n x hx
        have hw : w ≤ v ∨ vA w n < vA v n := by omega
        rcases this with h9 | h9 | h9
        · omega
        · rw [← h9]; omega
        · omega
      · exact h3 x hx
/-! spans told as one list of numbers -/
def uG : List Int → List Sp
  | a :: b :: r => (a, b) :: uG r
  | _ => []
def fl : List Sp → List Int
  | [] => []
  | p :: r => p.1 :: p.2 :: fl r
theorem o6 : ∀ s : List Sp, uG (fl s) = s
  | [] => rfl
  | p :: r => by show (p.1, p.2) :: uG (fl r) = p :: r; rw [o6 r]
theorem fI : ∀ s : List Sp, (fl s).length = s.length * 2
  | [] => rfl
  | p :: r => by show (fl r).length + 1 + 1 = (r.length + 1) * 2; rw [fI r]; omega
theorem jK : ∀ a b : List Sp, fl (a ++ b) = fl a ++ fl b
  | [], b => rfl
  | p :: a, b => by show p.1 :: p.2 :: fl (a ++ b) = p.1 :: p.2 :: (fl a ++ fl b); rw [jK a b]
theorem k8p : ∀ (n : Nat) (l : List Int), l.length = n * 2 → fl (uG l) = l
  | 0, [], _ => rfl
  | 0, _ :: _, h => by simp at h
  | n + 1, a :: b :: r, h => by
    show a :: b :: fl (uG r) = a :: b :: r
    rw [k8p n r (by simp at h; omega)]
  | n + 1, [_], h => by simp at h; omega
  | n + 1, [], h => by simp at h
theorem qX {n : Nat} {l : List Int} (h : l.length = n * 2) : (uG l).length = n := by
  have h1 := fI (uG l)
  rw [k8p n l h] at h1; omega
theorem n5 {n : Nat} {a b : List Int} (h : a.length = n * 2) : uG (a ++ b) = uG a ++ uG b := by
  induction n generalizing a with
  | zero =>
    have : a = [] := kd2 (by omega)
    subst this; rfl
  | succ n ih =>
    match a, h with
    | x :: y :: r, h =>
      show (x, y) :: uG (r ++ b) = (x, y) :: (uG r ++ uG b)
      rw [ih (by simp at h; omega)]
    | [_], h => simp at h; omega
    | [], h => simp at h
theorem aE : ∀ (n : Nat) (l : List Int) (j : Nat), l.length = n * 2 → j < n → (uG l)[j]? = some (ka1 l (j * 2) 0, ka1 l (j * 2 + 1) 0)
  | n + 1, a :: b :: r, 0, _, _ => rfl
  | n + 1, a :: b :: r, j + 1, h, hj => by
    show (uG r)[j]? = _
    rw [aE n r j (by simp at h; omega) (by omega)]
    rw [show (j + 1) * 2 = j * 2 + 1 + 1 by omega]; rfl
  | n + 1, [_], _, h, _ => by simp at h; omega
  | n + 1, [], _, h, _ => by simp at h
theorem yF {n : Nat} {l : List Int} (h : l.length = n * 2) {p : Sp} : p ∈ uG l ↔ ∃ j, j < n ∧ p = (ka1 l (j * 2) 0, ka1 l (j * 2 + 1) 0) := by
  constructor
  · intro hp
    obtain ⟨j, hj, e⟩ := List.mem_iff_getElem.1 hp
    rw [qX h] at hj
    have := aE n l j h hj
    rw [ka8 (by rw [qX h]; exact hj), e] at this
    exact ⟨j, hj, Option.some.inj this⟩
  · rintro ⟨j, hj, rfl⟩
    exact ke1 (aE n l j h hj)
theorem k6w {n : Nat} {l : List Int} (h : l.length = n * 2) {k : Nat} (hk : k ≤ n) : uG (ka5 (k * 2) l) = ka5 k (uG l) := by
  have h1 := n5 (n := k) (a := ka5 (k * 2) l) (b := ka3 (k * 2) l) (by rw [kb2]; omega)
  rw [kh4] at h1
  have h2 := qX (n := k) (l := ka5 (k * 2) l) (by rw [kb2]; omega)
  conv => rhs; rw [h1]
  exact (kn9 h2).symm
theorem k6x {n : Nat} {l : List Int} (h : l.length = n * 2) {k : Nat} (hk : k ≤ n) : uG (ka3 (k * 2) l) = ka3 k (uG l) := by
  have h1 := n5 (n := k) (a := ka5 (k * 2) l) (b := ka3 (k * 2) l) (by rw [kb2]; omega)
  rw [kh4] at h1
  have h2 := qX (n := k) (l := ka5 (k * 2) l) (by rw [kb2]; omega)
  conv => rhs; rw [h1]
  exact (List.drop_left' h2).symm
theorem zY {n : Nat} {l : List Int} (h : l.length = n * 2) (a b : Int) : uG (l ++ [a, b]) = uG l ++ [(a, b)] := n5 h
theorem cN {n : Nat} {l : List Int} (h : l.length = n * 2) {k : Nat} (hk : k < n) : ka3 k (uG l) = (ka1 l (k * 2) 0, ka1 l (k * 2 + 1) 0) :: ka3 (k + 1) (uG l) := by
  have hl := qX h
  rw [List.drop_eq_getElem_cons (by omega)]
  have := aE n l k h hk
  rw [ka8 (by omega)] at this
  rw [Option.some.inj this]
theorem yQ {n : Nat} {l : List Int} (h : l.length = n * 2) {k : Nat} (hk : k < n) : ka5 (k + 1) (uG l) = ka5 k (uG l) ++ [(ka1 l (k * 2) 0, ka1 l (k * 2 + 1) 0)] := by
  rw [List.take_add_one, aE n l k h hk]; rfl
/-! valid sets -/
def vaE (l : List Int) (j : Nat) : Bool := decide (0 ≤ ka1 l (j * 2) 0 ∧ ka1 l (j * 2) 0 ≤ ka1 l (j * 2 + 1) 0 ∧ ka1 l (j * 2 + 1) 0 ≤ 2147483647 ∧ (j = 0 ∨ ka1 l ((j - 1) * 2 + 1) 0 + 1 < ka1 l (j * 2) 0))
def eY (l : List Int) (n : Nat) : Bool := decide (n ≤ 64) && (List.range n).all (vaE l)
theorem fW {l : List Int} {n : Nat} (h1 : n ≤ 64) (h : ∀ j, j < n → vaE l j = true) : eY l n = true :=
  Bool.and_eq_true_iff.2 ⟨decide_eq_true h1, List.all_eq_true.2 fun j hj => h j (List.mem_range.1 hj)⟩
theorem iT {l : List Int} {n : Nat} (h1 : ¬ n ≤ 64) : eY l n = false := by unfold eY; rw [decide_eq_false h1]; rfl
theorem iS {l : List Int} {n k : Nat} (hk : k < n) (h : vaE l k = false) : eY l n = false := by
  cases hb : eY l n with
  | false => rfl
  | true =>
    have := List.all_eq_true.1 (Bool.and_eq_true_iff.1 hb).2 k (List.mem_range.2 hk)
    rw [h] at this; cases this
theorem k7i : ∀ (s : List Sp), (∀ (j : Nat) (p : Sp), s[j]? = some p → fL p) → (∀ (j : Nat) (p q : Sp), s[j]? = some p → s[j + 1]? = some q → p.2 + 1 < q.1) → cY s
  | [], _, _ => trivial
  | p :: r, h1, h2 => by
    have ih := k7i r (fun j q hq => h1 (j + 1) q hq) (fun j a b ha hb => h2 (j + 1) a b ha hb)
    refine ⟨h1 0 p rfl, ?_, ih⟩
    have hp := h1 0 p rfl
    match r, ih, h2 with
    | [], _, _ => intro q hq; cases hq
    | a :: r, ih, h2 =>
      have h3 := h2 0 p a rfl rfl
      have ha := ih.1
      unfold fL at ha
      intro q hq
      rcases List.mem_cons.1 hq with rfl | hq
      · exact h3
      · have := ih.2.1 q hq; omega
theorem wF : ∀ (s : List Sp), cY s → ∀ (j : Nat) (p q : Sp), s[j]? = some p → s[j + 1]? = some q → p.2 + 1 < q.1
  | [], _, j, p, q, h, _ => by simp at h
  | a :: r, h, 0, p, q, hp, hq => by
    have hp : some a = some p := hp
    cases hp
    exact h.2.1 q (ke1 (show r[0]? = some q from hq))
  | a :: r, h, j + 1, p, q, hp, hq => wF r h.2.2 j p q hp hq
theorem cI {l : List Int} {n : Nat} (hl : l.length = n * 2) : eY l n = true ↔ n ≤ 64 ∧ cY (uG l) := by
  constructor
  · intro h
    have h1 := Bool.and_eq_true_iff.1 h
    have ha : ∀ j, j < n → vaE l j = true := fun j hj => List.all_eq_true.1 h1.2 j (List.mem_range.2 hj)
    refine ⟨of_decide_eq_true h1.1, k7i _ (fun j p hp => ?_) (fun j p q hp hq => ?_)⟩
    · have hj : j < n := by have := (List.getElem?_eq_some_iff.1 hp).1; rw [qX hl] at this; exact this
      rw [aE n l j hl hj] at hp
      cases hp
      have := of_decide_eq_true (ha j hj)
      exact ⟨this.1, this.2.1, this.2.2.1⟩
    · have hj : j + 1 < n := by have := (List.getElem?_eq_some_iff.1 hq).1; rw [qX hl] at this; exact this
      rw [aE n l j hl (by omega)] at hp
      rw [aE n l (j + 1) hl hj] at hq
      cases hp; cases hq
      have := (of_decide_eq_true (ha (j + 1) hj)).2.2.2
      rw [show j + 1 - 1 = j by omega] at this
      rcases this with h9 | h9
      · omega
      · exact h9
  · rintro ⟨h1, h2⟩
    refine fW h1 fun j hj => decide_eq_true ?_
    have hv := gF h2 _ (ke1 (aE n l j hl hj))
    refine ⟨hv.1, hv.2.1, hv.2.2, ?_⟩
    rcases kn1 j with h9 | h9
    · exact .inl h9
    · right
      have e := aE n l (j - 1) hl (by omega)
      have e2 := aE n l j hl hj
      rw [show j = j - 1 + 1 by omega] at e2
      have := wF _ h2 (j - 1) _ _ e e2
      rw [show j - 1 + 1 = j by omega] at this
      exact this
def kC (l : List Int) (n : Nat) : List Int := if eY l n = true then l else []
def kP (l : List Int) (n : Nat) : Nat := if eY l n = true then n else 0
theorem k6j {l : List Int} {n : Nat} (h : eY l n = true) : kC l n = l ∧ kP l n = n := ⟨if_pos h, if_pos h⟩
theorem u5w {l : List Int} {n : Nat} (h : eY l n = false) : kC l n = [] ∧ kP l n = 0 := by unfold kC kP; rw [h]; exact ⟨rfl, rfl⟩
theorem kU {l : List Int} {n : Nat} (hl : l.length = n * 2) : (kC l n).length = kP l n * 2 := by
  unfold kC kP; split
  · exact hl
  · rfl
theorem uH {l : List Int} {n : Nat} (hl : l.length = n * 2) : cY (uG (kC l n)) := by
  cases h : eY l n with
  | true => rw [(k6j h).1]; exact ((cI hl).1 h).2
  | false => rw [(u5w h).1]; trivial
theorem aN {l : List Int} {n : Nat} : kP l n ≤ 64 ∧ kP l n ≤ n := by
  unfold kP; split
  · rename_i h; exact ⟨of_decide_eq_true (Bool.and_eq_true_iff.1 h).1, kc3 _⟩
  · exact ⟨ke3 _, ke3 _⟩
/-! spans in order, and joined -/
theorem k6y {n : Nat} {l : List Int} (h : l.length = n * 2) {j : Nat} (hj : j < n) : (uG l)[j]'(by rw [qX h]; exact hj) = (ka1 l (j * 2) 0, ka1 l (j * 2 + 1) 0) := by
  have := aE n l j h hj
  rw [ka8 (by rw [qX h]; exact hj)] at this
  exact Option.some.inj this
def RG (l : List Int) (n : Nat) : Prop := ∀ j, j < n → 0 ≤ ka1 l (j * 2) 0 ∧ ka1 l (j * 2) 0 ≤ ka1 l (j * 2 + 1) 0 ∧ ka1 l (j * 2 + 1) 0 ≤ 2147483647
theorem RG.v {l : List Int} {n : Nat} (hl : l.length = n * 2) (h : RG l n) : ∀ p ∈ uG l, fL p := fun p hp => by
  obtain ⟨j, hj, rfl⟩ := (yF hl).1 hp
  exact h j hj
theorem u1a {l : List Int} {n : Nat} (hl : l.length = n * 2) (h : ∀ p ∈ uG l, fL p) : RG l n := fun j hj => h _ ((yF hl).2 ⟨j, hj, rfl⟩)
def stP (s : List Sp) : List Sp := s.mergeSort fun a b => decide (a.1 ≤ b.1)
theorem gB (s : List Sp) : (stP s).Perm s := List.mergeSort_perm _ _
theorem k6g (s : List Sp) : srP (stP s) := by
  have h := List.pairwise_mergeSort (le := fun (x y : Sp) => decide (x.1 ≤ y.1)) (fun a b c h1 h2 => decide_eq_true (by have := of_decide_eq_true h1; have := of_decide_eq_true h2; omega)) (fun a b => by
    rw [Bool.or_eq_true]
    rcases Int.le_total a.1 b.1 with h | h
    · exact .inl (decide_eq_true h)
    · exact .inr (decide_eq_true h)) s
  exact h.imp fun h => of_decide_eq_true h
def mkP (s : List Sp) : List Sp := jnP (stP s)
theorem k7r {s : List Sp} (hv : ∀ p ∈ s, fL p) : cY (mkP s) ∧ (∀ z, dG (mkP s) z ↔ dG s z) ∧ (mkP s).length ≤ s.length := by
  obtain ⟨h1, h2, h3⟩ := k88 (s := stP s) (fun p hp => hv p ((gB s).mem_iff.1 hp)) (k6g s)
  exact ⟨h1, fun z => (h2 z).trans (k07 (gB s) z), by rw [(gB s).length_eq] at h3; exact h3⟩
theorem k5a {s t : List Sp} (hv : ∀ p ∈ s, fL p) (h : t.Perm s) (ht : srP t) : jnP t = mkP s :=
  (u2h ((gB s).trans h.symm) (fun p hp => hv p ((gB s).mem_iff.1 hp)) (k6g s) ht).symm
structure SI (l : List Int) (i : Nat) (o : List Int) : Prop where
  len : o.length = i * 2
  perm : (uG o).Perm (ka5 i (uG l))
  sr : srP (uG o)
theorem SI.zero (l : List Int) : SI l 0 [] := ⟨rfl, List.Perm.refl _, List.Pairwise.nil⟩
theorem SI.rg {l o : List Int} {n i : Nat} (h : SI l i o) (hl : l.length = n * 2) (hi : i ≤ n) (hr : RG l n) : RG o i :=
  u1a h.len fun p hp => hr.v hl p (ki2 (h.perm.mem_iff.1 hp))
theorem wB {s : List Sp} (h : srP s) {i j : Nat} {p q : Sp} (hij : i ≤ j) (hp : s[i]? = some p) (hq : s[j]? = some q) : p.1 ≤ q.1 := by
  obtain ⟨h1, rfl⟩ := List.getElem?_eq_some_iff.1 hp
  obtain ⟨h2, rfl⟩ := List.getElem?_eq_some_iff.1 hq
  rcases kk5 i j with h9 | h9
  · exact List.pairwise_iff_getElem.1 h i j h1 h2 h9
  · have e : i = j := by omega
    subst e; exact ke0 _
theorem SI.step {l o q : List Int} {n i k : Nat} {a b : Int} (h : SI l i o) (hl : l.length = n * 2) (hi : i < n) (ha : a = ka1 l (i * 2) 0) (hb : b = ka1 l (i * 2 + 1) 0) (hk : k ≤ i) (h1 : ∀ j, k ≤ j → j < i → a < ka1 o (j * 2) 0) (h2 : k = 0 ∨ ka1 o ((k - 1) * 2) 0 ≤ a) (hq : q = ka5 (k * 2) o ++ [a, b] ++ ka3 (k * 2) o) : SI l (i + 1) q := by
  have e : uG q = ka5 k (uG o) ++ [(a, b)] ++ ka3 k (uG o) := by
    rw [hq, n5 (n := k + 1) (by rw [ka6, kb2, h.len]; simp only [kb0, kb1]; omega), zY (n := k) (by rw [kb2, h.len]; omega), k6w h.len hk, k6x h.len hk]
  refine ⟨?_, ?_, ?_⟩
  · rw [hq]; simp only [ka6, kb2, kb3, kb0, kb1, h.len]; omega
  · rw [e, yQ hl hi, ← ha, ← hb, kd3]
    refine (List.Perm.append_left _ List.perm_append_comm).trans ?_
    rw [← kd3, kh4]
    exact h.perm.append_right _
  · have hg : ∀ j, j < i → (uG o)[j]? = some (ka1 o (j * 2) 0, ka1 o (j * 2 + 1) 0) := fun j hj => aE i o j h.len hj
    rw [e, srP, kd3, List.pairwise_append]
    refine ⟨h.sr.sublist (List.take_sublist _ _), List.Pairwise.cons (fun x hx => ?_) (h.sr.sublist (List.drop_sublist _ _)), fun x hx y hy => ?_⟩
    · obtain ⟨j, hj, e2⟩ := List.mem_iff_getElem?.1 hx |>.elim fun j hj => (⟨j, (List.getElem?_eq_some_iff.1 hj).1, hj⟩ : ∃ j, j < (ka3 k (uG o)).length ∧ (ka3 k (uG o))[j]? = some x)
      rw [kb3, qX h.len] at hj
      rw [ke6, hg _ (by omega)] at e2
      cases e2
      have := h1 (k + j) (by omega) (by omega)
      show a ≤ _; omega
    · obtain ⟨j, hj⟩ := List.mem_iff_getElem?.1 hx
      have hj2 := (List.getElem?_eq_some_iff.1 hj).1
      rw [kb2, qX h.len] at hj2
      rw [List.getElem?_take, if_pos (by omega)] at hj
      have hxa : x.1 ≤ a := by
        rcases h2 with h2 | h2
        · omega
        · have := wB h.sr (show j ≤ k - 1 by omega) hj (hg (k - 1) (by omega))
          exact Int.le_trans this h2
      rcases List.mem_cons.1 (show y ∈ (a, b) :: ka3 k (uG o) from hy) with rfl | hy
      · exact hxa
      · obtain ⟨m, hm⟩ := List.mem_iff_getElem?.1 hy
        have hm2 := (List.getElem?_eq_some_iff.1 hm).1
        rw [kb3, qX h.len] at hm2
        rw [ke6, hg _ (by omega)] at hm
        cases hm
        have := h1 (k + m) (by omega) (by omega)
        show x.1 ≤ _; omega
theorem SI.all {l o : List Int} {n i : Nat} (h : SI l i o) (hl : l.length = n * 2) (hi : n ≤ i) : (uG o).Perm (uG l) := by
  have := h.perm
  rw [kb7 (by rw [qX hl]; exact hi)] at this
  exact this
def MG (o : List Int) (i : Nat) (k : Nat) (out : List Int) : Prop := out = fl ((ka5 i (uG o)).foldl mO []).reverse ∧ ((ka5 i (uG o)).foldl mO []).length = k
theorem MG.zero (o : List Int) : MG o 0 0 [] := ⟨rfl, rfl⟩
theorem MG.len {o out : List Int} {i k : Nat} (h : MG o i k out) : out.length = k * 2 := by rw [h.1, fI, kc0, h.2]
theorem u7c (r : List Sp) (l : Sp) (v : Int) : List.set (fl (r ++ [l])) (r.length * 2 + 1) v = fl (r ++ [(l.1, v)]) := by
  rw [jK, jK, ← fI r, List.set_append_right _ _ (by omega), show (fl r).length + 1 - (fl r).length = 1 by omega]; rfl
theorem u2t (r : List Sp) (l : Sp) : ka1 (fl (r ++ [l])) (r.length * 2 + 1) 0 = l.2 := by
  rw [jK, List.getD_eq_getElem?_getD, ← fI r, List.getElem?_append_right (by omega), show (fl r).length + 1 - (fl r).length = 1 by omega]; rfl
theorem MG.last {o out : List Int} {i k : Nat} (h : MG o i k out) (hk : 1 ≤ k) : ∃ l r, (ka5 i (uG o)).foldl mO [] = l :: r ∧ out = fl (r.reverse ++ [l]) ∧ r.length = k - 1 ∧ ka1 out ((k - 1) * 2 + 1) 0 = l.2 := by
  obtain ⟨h1, h2⟩ := h
  cases e : (ka5 i (uG o)).foldl mO [] with
  | nil => rw [e] at h2; simp at h2; omega
  | cons l r =>
    rw [e] at h1 h2
    rw [kg5] at h1
    have h3 : r.length = k - 1 := by simp at h2; omega
    refine ⟨l, r, rfl, h1, h3, ?_⟩
    rw [h1, ← h3, ← (kc0 : r.reverse.length = r.length)]; exact u2t _ _
theorem MG.next {o : List Int} {n i : Nat} (hl : o.length = n * 2) (hi : i < n) : (ka5 (i + 1) (uG o)).foldl mO [] = mO ((ka5 i (uG o)).foldl mO []) (ka1 o (i * 2) 0, ka1 o (i * 2 + 1) 0) := by
  rw [yQ hl hi, List.foldl_append]; rfl
theorem MG.new {o out q : List Int} {n i k : Nat} {a b : Int} (h : MG o i k out) (hl : o.length = n * 2) (hi : i < n) (ha : a = ka1 o (i * 2) 0) (hb : b = ka1 o (i * 2 + 1) 0) (h2 : k = 0 ∨ ka1 out ((k - 1) * 2 + 1) 0 + 1 < a) (hq : q = out ++ [a, b]) : MG o (i + 1) (k + 1) q := by
  unfold MG
  rw [MG.next hl hi, ← ha, ← hb, hq]
  rcases kn1 k with h0 | h0
  · have h3 := h.2
    rw [h0] at h3
    have e := kd2 h3
    rw [h.1, e]; subst h0; exact ⟨rfl, rfl⟩
  · obtain ⟨l, r, e, e1, e2, e3⟩ := h.last h0
    rw [e]
    have h4 : l.2 + 1 < a := by
      rcases h2 with h2 | h2
      · omega
      · rw [e3] at h2; exact h2
    have e5 : mO (l :: r) (a, b) = (a, b) :: l :: r := by
      show (if a ≤ l.2 + 1 then _ else _) = _
      rw [if_neg (by omega)]
    rw [e5, e1]
    refine ⟨?_, by simp only [kb0]; omega⟩
    rw [kg5, kg5, jK (r.reverse ++ [l])]; rfl
theorem MG.join {o out q : List Int} {n i k : Nat} {a b v : Int} (h : MG o i k out) (hl : o.length = n * 2) (hi : i < n) (ha : a = ka1 o (i * 2) 0) (hb : b = ka1 o (i * 2 + 1) 0) (hk : 1 ≤ k) (h2 : a ≤ ka1 out ((k - 1) * 2 + 1) 0 + 1) (hv : v = max (ka1 out ((k - 1) * 2 + 1) 0) b) (hq : q = List.set out ((k - 1) * 2 + 1) v) : MG o (i + 1) k q := by
  unfold MG
  rw [MG.next hl hi, ← ha, ← hb, hq]
  obtain ⟨l, r, e, e1, e2, e3⟩ := h.last hk
  rw [e]
  rw [e3] at h2 hv
  have e5 : mO (l :: r) (a, b) = (l.1, max l.2 b) :: r := by
    show (if a ≤ l.2 + 1 then _ else _) = _
    rw [if_pos h2]
  rw [e5, e1, ← e2]
  refine ⟨?_, by simp only [kb0]; omega⟩
  rw [← (kc0 : r.reverse.length = r.length), u7c, kg5, hv]
theorem MG.fin {o out : List Int} {n i k : Nat} (h : MG o i k out) (hl : o.length = n * 2) (hi : n ≤ i) : out = fl (jnP (uG o)) ∧ (jnP (uG o)).length = k := by
  unfold MG at h
  rw [kb7 (by rw [qX hl]; exact hi)] at h
  refine ⟨h.1, ?_⟩
  unfold jnP jnR; rw [kc0]; exact h.2
theorem v03 : ∀ (s o : List Sp), (∀ p ∈ o, fL p) → (∀ p ∈ s, fL p) → ∀ p ∈ s.foldl mO o, 0 ≤ p.1 ∧ 0 ≤ p.2 ∧ p.2 ≤ 2147483647
  | [], o, h, _, p, hp => by have := h p hp; unfold fL at this; omega
  | x :: s, o, h, hs, p, hp => by
    refine v03 s (mO o x) (fun q hq => ?_) (fun q hq => hs q (kb9 _ hq)) p hp
    have hx := hs x (kb5 ..)
    cases o with
    | nil => rw [List.mem_singleton.1 (show q ∈ [x] from hq)]; exact hx
    | cons l r =>
      have hl := h l (kb5 ..)
      have hq : q ∈ (if x.1 ≤ l.2 + 1 then (l.1, max l.2 x.2) :: r else x :: l :: r) := hq
      unfold fL at hx hl
      split at hq
      · rcases List.mem_cons.1 hq with rfl | hq
        · exact ⟨hl.1, by show l.1 ≤ max l.2 x.2; omega, by show max l.2 x.2 ≤ _; omega⟩
        · exact h q (kb9 _ hq)
      · rcases List.mem_cons.1 hq with rfl | hq
        · exact hx
        · exact h q hq
theorem MG.hi {o out : List Int} {n i k : Nat} (h : MG o i k out) (hl : o.length = n * 2) (hr : RG o n) (hk : 1 ≤ k) : 0 ≤ ka1 out ((k - 1) * 2 + 1) 0 ∧ ka1 out ((k - 1) * 2 + 1) 0 ≤ 2147483647 := by
  obtain ⟨l, r, e, _, _, e3⟩ := h.last hk
  rw [e3]
  have := v03 (ka5 i (uG o)) [] (fun _ h => (by cases h)) (fun p hp => hr.v hl p (ki2 hp)) l (by rw [e]; exact kb5 ..)
  exact ⟨this.2.1, this.2.2⟩
/-! the functions on lists -/
def rgE (l : List Int) (j : Nat) : Bool := decide (0 ≤ ka1 l (j * 2) 0 ∧ ka1 l (j * 2) 0 ≤ ka1 l (j * 2 + 1) 0 ∧ ka1 l (j * 2 + 1) 0 ≤ 2147483647)
def rgB (l : List Int) (n : Nat) : Bool := (List.range n).all (rgE l)
theorem u8z {l : List Int} {n : Nat} (h : ∀ j, j < n → rgE l j = true) : rgB l n = true := List.all_eq_true.2 fun j hj => h j (List.mem_range.1 hj)
theorem u5z {l : List Int} {n k : Nat} (hk : k < n) (h : rgE l k = false) : rgB l n = false := by
  cases hb : rgB l n with
  | false => rfl
  | true => have := List.all_eq_true.1 hb k (List.mem_range.2 hk); rw [h] at this; cases this
theorem mM {l : List Int} {n : Nat} : rgB l n = true ↔ RG l n := ⟨fun h j hj => of_decide_eq_true (List.all_eq_true.1 h j (List.mem_range.2 hj)), fun h => u8z fun j hj => decide_eq_true (h j hj)⟩
def zD (l : List Int) : List Int := fl (mkP (uG l))
def oA (l : List Int) : Nat := (mkP (uG l)).length
theorem k2c (l : List Int) : (zD l).length = oA l * 2 := fI _
theorem k8a {l : List Int} {n : Nat} (hl : l.length = n * 2) (hr : RG l n) : oA l ≤ n := by
  have := (k7r (hr.v hl)).2.2
  rw [qX hl] at this; exact this
theorem u6t {l o out : List Int} {n k : Nat} (hl : l.length = n * 2) (hr : RG l n) (ho : o.length = n * 2) (hp : (uG o).Perm (uG l)) (hs : srP (uG o)) (h : MG o n k out) : out = zD l ∧ oA l = k := by
  obtain ⟨h1, h2⟩ := h.fin ho (kc3 _)
  rw [k5a (hr.v hl) hp hs] at h1 h2
  exact ⟨h1, h2⟩
def rP (l : List Int) (n : Nat) : Int := if rgB l n = true then (if oA l ≤ 64 then 0 else 3) else 2
def fN (l : List Int) (n : Nat) : List Int := if rgB l n = true ∧ oA l ≤ 64 then zD l else []
def vS (l : List Int) (n : Nat) : Nat := if rgB l n = true ∧ oA l ≤ 64 then oA l else 0
theorem wL {l : List Int} {n : Nat} (h : rgB l n = false) : rP l n = 2 ∧ fN l n = [] ∧ vS l n = 0 := by
  unfold rP fN vS; rw [h]
  exact ⟨if_neg kj8, if_neg fun h => absurd h.1 kj8, if_neg fun h => absurd h.1 kj8⟩
theorem k7s {l : List Int} {n : Nat} (h : rgB l n = true) (h2 : 64 < oA l) : rP l n = 3 ∧ fN l n = [] ∧ vS l n = 0 := by
  unfold rP fN vS
  rw [if_pos h]
  exact ⟨if_neg (by omega), if_neg fun h => by omega, if_neg fun h => by omega⟩
theorem wK {l : List Int} {n : Nat} (h : rgB l n = true) (h2 : oA l ≤ 64) : rP l n = 0 ∧ fN l n = zD l ∧ vS l n = oA l := by
  unfold rP fN vS
  rw [if_pos h]
  exact ⟨if_pos h2, if_pos ⟨h, h2⟩, if_pos ⟨h, h2⟩⟩
theorem lB (l : List Int) (n : Nat) : (fN l n).length = vS l n * 2 := by
  unfold fN vS; split
  · exact k2c l
  · rfl
theorem pF (l : List Int) (n : Nat) : (0 ≤ rP l n ∧ rP l n ≤ 3) ∧ vS l n ≤ 64 := by
  constructor
  · unfold rP; (repeat' split) <;> omega
  · unfold vS; split <;> omega
theorem k7u {l : List Int} {n : Nat} (hl : l.length = n * 2) : cY (uG (fN l n)) := by
  unfold fN; split
  · rename_i h; unfold zD; rw [o6]; exact (k7r ((mM.1 h.1).v hl)).1
  · trivial
theorem u6n {l : List Int} {n : Nat} (hl : l.length = n * 2) : eY (fN l n) (vS l n) = true := (cI (lB l n)).2 ⟨(pF l n).2, k7u hl⟩
/-! members -/
def dJ (l : List Int) (x : Int) : Bool := (uG l).any fun p => decide (p.1 ≤ x ∧ x ≤ p.2)
theorem aV {l : List Int} {x : Int} : dJ l x = true ↔ dG (uG l) x := by
  unfold dJ dG
  rw [ki3]
  constructor
  · rintro ⟨p, hp, h⟩; exact ⟨p, hp, of_decide_eq_true h⟩
  · rintro ⟨p, hp, h⟩; exact ⟨p, hp, decide_eq_true h⟩
theorem k8i {l : List Int} {n k : Nat} {x : Int} (hl : l.length = n * 2) (hk : k < n) (h : ka1 l (k * 2) 0 ≤ x ∧ x ≤ ka1 l (k * 2 + 1) 0) : dJ l x = true := aV.2 ⟨_, (yF hl).2 ⟨k, hk, rfl⟩, h⟩
theorem v0j {l : List Int} {n : Nat} {x : Int} (hl : l.length = n * 2) (h : ∀ j, j < n → ¬ (ka1 l (j * 2) 0 ≤ x ∧ x ≤ ka1 l (j * 2 + 1) 0)) : dJ l x = false := by
  cases hb : dJ l x with
  | false => rfl
  | true =>
    obtain ⟨p, hp, h1⟩ := aV.1 hb
    obtain ⟨j, hj, rfl⟩ := (yF hl).1 hp
    exact absurd h1 (h j hj)
/-! inside -/
def coB (b : List Int) (p q : Int) : Bool := (uG b).any (ctE (p, q))
theorem v30 {b : List Int} {m k : Nat} {p q : Int} (hl : b.length = m * 2) (hk : k < m) (h : ka1 b (k * 2) 0 ≤ p ∧ q ≤ ka1 b (k * 2 + 1) 0) : coB b p q = true := by
  unfold coB
  rw [ki3]
  exact ⟨_, (yF hl).2 ⟨k, hk, rfl⟩, decide_eq_true h⟩
theorem v31 {b : List Int} {m : Nat} {p q : Int} (hl : b.length = m * 2) (h : ∀ j, j < m → ¬ (ka1 b (j * 2) 0 ≤ p ∧ q ≤ ka1 b (j * 2 + 1) 0)) : coB b p q = false := by
  cases hb : coB b p q with
  | false => rfl
  | true =>
    unfold coB at hb
    rw [ki3] at hb
    obtain ⟨r, hr, h1⟩ := hb
    obtain ⟨j, hj, rfl⟩ := (yF hl).1 hr
    exact absurd (of_decide_eq_true h1) (h j hj)
def inB (a b : List Int) : Bool := inP (uG a) (uG b)
theorem v0h {a b : List Int} {n : Nat} (hl : a.length = n * 2) (h : ∀ j, j < n → coB b (ka1 a (j * 2) 0) (ka1 a (j * 2 + 1) 0) = true) : inB a b = true := by
  unfold inB inP
  rw [kf9]
  intro p hp
  obtain ⟨j, hj, rfl⟩ := (yF hl).1 hp
  exact h j hj
theorem v0i {a b : List Int} {n k : Nat} (hl : a.length = n * 2) (hk : k < n) (h : coB b (ka1 a (k * 2) 0) (ka1 a (k * 2 + 1) 0) = false) : inB a b = false := by
  cases hb : inB a b with
  | false => rfl
  | true =>
    unfold inB inP at hb
    rw [kf9] at hb
    have := hb _ ((yF hl).2 ⟨k, hk, rfl⟩)
    exact absurd (h.symm.trans this) (by decide)
/-! the nearest -/
def NR (n : Int) (l : List Int) (i : Nat) (b : Int) (f : Bool) : Prop := nrP n (ka5 i (uG l)) none = (if f = true then some b else none) ∧ (f = false → b = 0)
theorem n7 (n : Int) (p : Sp) : ∀ (s : List Sp) (o : Option Int), nrP n (s ++ [p]) o = match nrP n s o with
    | none => some (jO n p)
    | some v => if vA (jO n p) n < vA v n then some (jO n p) else some v
  | [], o => rfl
  | q :: s, o => n7 n p s _
theorem NR.zero (n : Int) (l : List Int) : NR n l 0 0 false := ⟨rfl, fun _ => rfl⟩
theorem NR.first {n : Int} {l : List Int} {i m : Nat} {b v : Int} (h : NR n l i b false) (hl : l.length = m * 2) (hi : i < m) (hv : v = jO n (ka1 l (i * 2) 0, ka1 l (i * 2 + 1) 0)) : NR n l (i + 1) v true := by
  refine ⟨?_, fun h => by cases h⟩
  rw [yQ hl hi, n7, h.1, hv]; rfl
theorem NR.near {n : Int} {l : List Int} {i m : Nat} {b v : Int} (h : NR n l i b true) (hl : l.length = m * 2) (hi : i < m) (hv : v = jO n (ka1 l (i * 2) 0, ka1 l (i * 2 + 1) 0)) (hd : vA v n < vA b n) : NR n l (i + 1) v true := by
  refine ⟨?_, fun h => by cases h⟩
  rw [yQ hl hi, n7, h.1, ← hv]
  show (if vA v n < vA b n then some v else some b) = some v
  rw [if_pos hd]
theorem NR.far {n : Int} {l : List Int} {i m : Nat} {b v : Int} (h : NR n l i b true) (hl : l.length = m * 2) (hi : i < m) (hd : ¬ vA v n < vA b n) (hv : v = jO n (ka1 l (i * 2) 0, ka1 l (i * 2 + 1) 0)) : NR n l (i + 1) b true := by
  refine ⟨?_, fun h => by cases h⟩
  rw [yQ hl hi, n7, h.1, ← hv]
  show (if vA v n < vA b n then some v else some b) = some b
  rw [if_neg hd]
def uA (n : Int) (l : List Int) : Int := (nrP n (uG l) none).getD 0
def nrF (n : Int) (l : List Int) : Bool := (nrP n (uG l) none).isSome
theorem NR.fin {n : Int} {l : List Int} {i m : Nat} {b : Int} {f : Bool} (h : NR n l i b f) (hl : l.length = m * 2) (hi : m ≤ i) : uA n l = b ∧ nrF n l = f := by
  have h1 := h.1
  rw [kb7 (by rw [qX hl]; exact hi)] at h1
  unfold uA nrF
  rw [h1]
  cases f with
  | true => exact ⟨rfl, rfl⟩
  | false => exact ⟨(h.2 rfl).symm, rfl⟩
/-! intersections -/
def uN (a b : List Int) : List Int := fl (ka5 64 (fE (uG a) (uG b)))
def qM (a b : List Int) : Nat := (ka5 64 (fE (uG a) (uG b))).length
theorem uR (a b : List Int) : (uN a b).length = qM a b * 2 := fI _
theorem aO (a b : List Int) : qM a b ≤ 64 := by unfold qM; rw [kb2]; omega
structure IX (a b : List Int) (i j k : Nat) (out : List Int) : Prop where
  ex : ∃ q, out = fl q ∧ q.length = k ∧ q ++ fE (ka3 i (uG a)) (ka3 j (uG b)) = fE (uG a) (uG b)
theorem IX.zero (a b : List Int) : IX a b 0 0 0 [] := ⟨[], rfl, rfl, rfl⟩
theorem IX.len {a b out : List Int} {i j k : Nat} (h : IX a b i j k out) : out.length = k * 2 := by
  obtain ⟨q, rfl, rfl, _⟩ := h; exact fI q
theorem pC : ∀ (k : Nat) {s : List Sp}, cY s → cY (ka3 k s)
  | 0, _, h => h
  | k + 1, [], _ => trivial
  | k + 1, p :: s, h => pC k h.2.2
theorem IX.put {a b out o : List Int} {n m i j k : Nat} {u v : Int} (h : IX a b i j k out) (ha : a.length = n * 2) (hb : b.length = m * 2) (oa : cY (uG a)) (ob : cY (uG b)) (hi : i < n) (hj : j < m) (hu : u = max (ka1 a (i * 2) 0) (ka1 b (j * 2) 0)) (hv : v = min (ka1 a (i * 2 + 1) 0) (ka1 b (j * 2 + 1) 0)) (ho : (u ≤ v ∧ o = out ++ [u, v]) ∨ (¬ u ≤ v ∧ o = out)) :
    (ka1 a (i * 2 + 1) 0 < ka1 b (j * 2 + 1) 0 → IX a b (i + 1) j (if u ≤ v then k + 1 else k) o) ∧ (¬ ka1 a (i * 2 + 1) 0 < ka1 b (j * 2 + 1) 0 → IX a b i (j + 1) (if u ≤ v then k + 1 else k) o) := by
  obtain ⟨q, e1, e2, e3⟩ := h
  rw [cN ha hi, cN hb hj] at e3
  have oa2 := pC i oa
  have ob2 := pC j ob
  rw [cN ha hi] at oa2
  rw [cN hb hj] at ob2
  have hE : oB (ka1 a (i * 2) 0, ka1 a (i * 2 + 1) 0) (ka1 b (j * 2) 0, ka1 b (j * 2 + 1) 0) = if u ≤ v then [(u, v)] else [] := by unfold oB; rw [hu, hv]
  have hq : o = fl (q ++ (if u ≤ v then [(u, v)] else [])) ∧ (q ++ (if u ≤ v then [(u, v)] else [])).length = if u ≤ v then k + 1 else k := by
    rcases ho with ⟨h1, h2⟩ | ⟨h1, h2⟩
    · rw [if_pos h1, if_pos h1, h2, e1, jK, ka6, e2]; exact ⟨rfl, rfl⟩
    · rw [if_neg h1, if_neg h1, h2, e1, kd9]; exact ⟨rfl, e2⟩
  constructor
  · intro hlt
    rw [k45 ob2 hlt, hE, ← cN hb hj, ← kd3] at e3
    exact ⟨_, hq.1, hq.2, e3⟩
  · intro hlt
    rw [k0d oa2 hlt, hE, ← cN ha hi, ← kd3] at e3
    exact ⟨_, hq.1, hq.2, e3⟩
theorem IX.fin {a b out : List Int} {n m i j k : Nat} (h : IX a b i j k out) (ha : a.length = n * 2) (hb : b.length = m * 2) (hk : k ≤ 64) (hf : n ≤ i ∨ m ≤ j ∨ k = 64) : out = uN a b ∧ qM a b = k := by
  obtain ⟨q, e1, e2, e3⟩ := h
  have e4 : ka5 64 (fE (uG a) (uG b)) = q := by
    rw [← e3]
    rcases kk5 k 64 with h9 | h9
    · have e5 : fE (ka3 i (uG a)) (ka3 j (uG b)) = [] := by
        rcases hf with hf | hf | hf
        · rw [km0 (by rw [qX ha]; exact hf)]; rfl
        · rw [show ka3 j (uG b) = [] from km0 (by rw [qX hb]; exact hf)]; exact mQ _
        · omega
      rw [e5, kd9, kb7 (by omega)]
    · exact kn9 (by omega)
  unfold uN qM
  rw [e4]; exact ⟨e1, e2⟩
def AL (a b : List Int) (i k : Nat) (out : List Int) : Prop := out = fl (fE (ka5 i (uG a)) (uG b)) ∧ (fE (ka5 i (uG a)) (uG b)).length = k
def AJ (a b : List Int) (i j k : Nat) (out : List Int) : Prop := out = fl (fE (ka5 i (uG a)) (uG b) ++ zE (ka1 a (i * 2) 0, ka1 a (i * 2 + 1) 0) (ka5 j (uG b))) ∧ (fE (ka5 i (uG a)) (uG b) ++ zE (ka1 a (i * 2) 0, ka1 a (i * 2 + 1) 0) (ka5 j (uG b))).length = k
theorem AL.zero (a b : List Int) : AL a b 0 0 [] := ⟨rfl, rfl⟩
theorem AL.in {a b out : List Int} {i k : Nat} (h : AL a b i k out) : AJ a b i 0 k out := by
  unfold AJ
  rw [show zE (ka1 a (i * 2) 0, ka1 a (i * 2 + 1) 0) (ka5 0 (uG b)) = [] from rfl, kd9]; exact h
theorem k0e (p : Sp) (s : List Sp) (q : Sp) : zE p (s ++ [q]) = zE p s ++ oB p q := by unfold zE; rw [km3]; simp
theorem k8c (s : List Sp) (p : Sp) (b : List Sp) : fE (s ++ [p]) b = fE s b ++ zE p b := by unfold fE; rw [km3]; simp
theorem AJ.y {a b out o : List Int} {m i j k : Nat} {u v : Int} (h : AJ a b i j k out) (hb : b.length = m * 2) (hj : j < m) (hu : u = max (ka1 a (i * 2) 0) (ka1 b (j * 2) 0)) (hv : v = min (ka1 a (i * 2 + 1) 0) (ka1 b (j * 2 + 1) 0)) (h1 : u ≤ v) (ho : o = out ++ [u, v]) : AJ a b i (j + 1) (k + 1) o := by
  have hE : oB (ka1 a (i * 2) 0, ka1 a (i * 2 + 1) 0) (ka1 b (j * 2) 0, ka1 b (j * 2 + 1) 0) = [(u, v)] := by
    unfold oB; rw [← hu, ← hv, if_pos h1]
  unfold AJ
  rw [yQ hb hj, k0e, hE, ← kd3, jK, ka6, ← h.1, h.2, ho]; exact ⟨rfl, rfl⟩
theorem AJ.n {a b out : List Int} {m i j k : Nat} (h : AJ a b i j k out) (hb : b.length = m * 2) (hj : j < m) (h1 : ¬ max (ka1 a (i * 2) 0) (ka1 b (j * 2) 0) ≤ min (ka1 a (i * 2 + 1) 0) (ka1 b (j * 2 + 1) 0)) : AJ a b i (j + 1) k out := by
  have hE : oB (ka1 a (i * 2) 0, ka1 a (i * 2 + 1) 0) (ka1 b (j * 2) 0, ka1 b (j * 2 + 1) 0) = [] := by
    unfold oB; rw [if_neg h1]
  unfold AJ
  rw [yQ hb hj, k0e, hE, kd9]; exact h
theorem AJ.out {a b out : List Int} {n m i j k : Nat} (h : AJ a b i j k out) (ha : a.length = n * 2) (hi : i < n) (hb : b.length = m * 2) (hj : m ≤ j) : AL a b (i + 1) k out := by
  unfold AJ at h
  rw [kb7 (l := uG b) (by rw [qX hb]; exact hj), ← k8c, ← yQ ha hi] at h
  exact h
theorem AL.fin {a b out : List Int} {n i k : Nat} (h : AL a b i k out) (ha : a.length = n * 2) (hi : n ≤ i) : out = fl (fE (uG a) (uG b)) ∧ (fE (uG a) (uG b)).length = k := by
  unfold AL at h
  rw [kb7 (by rw [qX ha]; exact hi)] at h; exact h
def jS (a b : List Int) : List Int := fl (fE (uG a) (uG b))
def aW (a b : List Int) : Nat := (fE (uG a) (uG b)).length
theorem jR (a b : List Int) : (jS a b).length = aW a b * 2 := fI _
theorem k48 : ∀ (k : Nat) (s : List Sp), fl (ka5 k s) = ka5 (k * 2) (fl s)
  | 0, s => by rw [Nat.zero_mul]; rfl
  | k + 1, [] => by simp [fl]
  | k + 1, p :: s => by
    show p.1 :: p.2 :: fl (ka5 k s) = _
    rw [k48 k s, show (k + 1) * 2 = k * 2 + 1 + 1 by omega]; rfl
theorem v0f {a b : List Int} {k : Nat} (hk : k = min (aW a b) 64) : uN a b = ka5 (k * 2) (jS a b) ∧ qM a b = k := by
  unfold uN qM jS
  rw [kb2, ← k48, hk]
  refine ⟨?_, by unfold aW; omega⟩
  congr 1
  unfold aW
  rcases kk5 (fE (uG a) (uG b)).length 64 with h | h
  · rw [Nat.min_eq_left (by omega), kb7 (by omega), kb7 (kc3 _)]
  · rw [Nat.min_eq_right h]
theorem u0t {a b : List Int} {n m : Nat} (ha : a.length = n * 2) (hb : b.length = m * 2) (oa : cY (uG a)) (ob : cY (uG b)) : aW a b ≤ n + m := by
  have := wT _ (uG a) (uG b) (kc3 _) oa ob
  rw [qX ha, qX hb] at this; exact this
theorem k8k {o : List Int} {k n : Nat} {p : Int} (h : ∀ j, k ≤ j → j < n → p < ka1 o (j * 2) 0) (h1 : p < ka1 o ((k - 1) * 2) 0) (hk : 1 ≤ k) : ∀ j, k - 1 ≤ j → j < n → p < ka1 o (j * 2) 0 := fun j hj hn => by
  rcases kk5 j k with h7 | h7
  · rw [show j = k - 1 by omega]; exact h1
  · exact h j h7 hn
theorem jV {l : List Int} {k : Nat} (ha : ∀ j, j < k → vaE l j = true) (h : 1 ≤ k) : 0 ≤ ka1 l ((k - 1) * 2 + 1) 0 ∧ ka1 l ((k - 1) * 2 + 1) 0 ≤ 2147483647 := by
  have := of_decide_eq_true (ha (k - 1) (by omega)); omega
theorem u46 {l : List Int} {n : Nat} (hl : l.length = n * 2) : RG (kC l n) (kP l n) := u1a (kU hl) (gF (uH hl))
theorem IX.ly {a b out : List Int} {n m i j k : Nat} {u v : Int} (h : IX a b i j k out) (ha : a.length = n * 2) (hb : b.length = m * 2) (oa : cY (uG a)) (ob : cY (uG b)) (hi : i < n) (hj : j < m) (hu : u = max (ka1 a (i * 2) 0) (ka1 b (j * 2) 0)) (hv : v = min (ka1 a (i * 2 + 1) 0) (ka1 b (j * 2 + 1) 0)) (h1 : u ≤ v) (h2 : ka1 a (i * 2 + 1) 0 < ka1 b (j * 2 + 1) 0) : IX a b (i + 1) j (k + 1) (out ++ [u, v]) := by
  have h9 := (h.put ha hb oa ob hi hj hu hv (.inl ⟨h1, rfl⟩)).1 h2
  rw [if_pos h1] at h9; exact h9
theorem IX.ln {a b out : List Int} {n m i j k : Nat} (h : IX a b i j k out) (ha : a.length = n * 2) (hb : b.length = m * 2) (oa : cY (uG a)) (ob : cY (uG b)) (hi : i < n) (hj : j < m) (h1 : ¬ max (ka1 a (i * 2) 0) (ka1 b (j * 2) 0) ≤ min (ka1 a (i * 2 + 1) 0) (ka1 b (j * 2 + 1) 0)) (h2 : ka1 a (i * 2 + 1) 0 < ka1 b (j * 2 + 1) 0) : IX a b (i + 1) j k out := by
  have h9 := (h.put ha hb oa ob hi hj rfl rfl (.inr ⟨h1, rfl⟩)).1 h2
  rw [if_neg h1] at h9; exact h9
theorem IX.ry {a b out : List Int} {n m i j k : Nat} {u v : Int} (h : IX a b i j k out) (ha : a.length = n * 2) (hb : b.length = m * 2) (oa : cY (uG a)) (ob : cY (uG b)) (hi : i < n) (hj : j < m) (hu : u = max (ka1 a (i * 2) 0) (ka1 b (j * 2) 0)) (hv : v = min (ka1 a (i * 2 + 1) 0) (ka1 b (j * 2 + 1) 0)) (h1 : u ≤ v) (h2 : ¬ ka1 a (i * 2 + 1) 0 < ka1 b (j * 2 + 1) 0) : IX a b i (j + 1) (k + 1) (out ++ [u, v]) := by
  have h9 := (h.put ha hb oa ob hi hj hu hv (.inl ⟨h1, rfl⟩)).2 h2
  rw [if_pos h1] at h9; exact h9
theorem IX.rn {a b out : List Int} {n m i j k : Nat} (h : IX a b i j k out) (ha : a.length = n * 2) (hb : b.length = m * 2) (oa : cY (uG a)) (ob : cY (uG b)) (hi : i < n) (hj : j < m) (h1 : ¬ max (ka1 a (i * 2) 0) (ka1 b (j * 2) 0) ≤ min (ka1 a (i * 2 + 1) 0) (ka1 b (j * 2 + 1) 0)) (h2 : ¬ ka1 a (i * 2 + 1) 0 < ka1 b (j * 2 + 1) 0) : IX a b i (j + 1) k out := by
  have h9 := (h.put ha hb oa ob hi hj rfl rfl (.inr ⟨h1, rfl⟩)).2 h2
  rw [if_neg h1] at h9; exact h9
theorem dp1 {A : List Int} {i n : Nat} (h : A.length = n * 2) : dI .i64 (ka3 ((i + 1) * 2) A) = dI .i64 (ka5 ((n - i - 1) * 2) (ka3 2 (ka3 (i * 2) A))) := by
  rw [List.drop_drop, kb7 (by rw [kb3]; omega), show i * 2 + 2 = (i + 1) * 2 by omega]
/-! the first span that holds another one -/
def oD (b : List Int) (u v : Int) : Nat → Int
  | 0 => -1
  | k + 1 => if 0 ≤ oD b u v k then oD b u v k else if ka1 b (k * 2) 0 ≤ u ∧ v ≤ ka1 b (k * 2 + 1) 0 then (k : Int) else -1
theorem k4f {b : List Int} {u v : Int} {k : Nat} (h : oD b u v k = -1) (h2 : ¬ (ka1 b (k * 2) 0 ≤ u ∧ v ≤ ka1 b (k * 2 + 1) 0)) : oD b u v (k + 1) = -1 := by
  show (if 0 ≤ oD b u v k then _ else _) = _
  rw [if_neg (by omega), if_neg h2]
theorem xK {b : List Int} {u v : Int} {k : Nat} (h : oD b u v k = -1) (h2 : ka1 b (k * 2) 0 ≤ u ∧ v ≤ ka1 b (k * 2 + 1) 0) : ∀ n, k < n → oD b u v n = (k : Int)
  | n + 1, hn => by
    by_cases hk : k = n
    · subst hk
      show (if 0 ≤ oD b u v k then _ else _) = _
      rw [if_neg (by omega), if_pos h2]
    · have := xK h h2 n (by omega)
      show (if 0 ≤ oD b u v n then _ else _) = _
      rw [if_pos (by omega)]; exact this
theorem xJ (b : List Int) (u v : Int) : ∀ n, (oD b u v n = -1 ∧ ∀ j, j < n → ¬ (ka1 b (j * 2) 0 ≤ u ∧ v ≤ ka1 b (j * 2 + 1) 0)) ∨ ∃ k, k < n ∧ oD b u v n = (k : Int) ∧ ka1 b (k * 2) 0 ≤ u ∧ v ≤ ka1 b (k * 2 + 1) 0
  | 0 => .inl ⟨rfl, fun j hj => absurd hj (Nat.not_lt_zero j)⟩
  | n + 1 => by
    rcases xJ b u v n with ⟨h, h2⟩ | ⟨k, h1, h2, h3⟩
    · by_cases h9 : ka1 b (n * 2) 0 ≤ u ∧ v ≤ ka1 b (n * 2 + 1) 0
      · exact .inr ⟨n, by omega, xK h h9 _ (by omega), h9⟩
      · exact .inl ⟨k4f h h9, fun j hj => (Nat.lt_succ_iff_lt_or_eq.1 hj).elim (h2 j) (fun e => by subst e; exact h9)⟩
    · refine .inr ⟨k, by omega, ?_, h3⟩
      show (if 0 ≤ oD b u v n then _ else _) = _
      rw [if_pos (by omega)]; exact h2
theorem v0v {b : List Int} {u v : Int} {m : Nat} (hb : b.length = m * 2) (h : 0 ≤ oD b u v m) : coB b u v = true := by
  rcases xJ b u v m with ⟨h1, _⟩ | ⟨k, h1, _, h3⟩
  · omega
  · exact v30 hb h1 h3
theorem v0w {b : List Int} {u v : Int} {m : Nat} (hb : b.length = m * 2) (h : ¬ 0 ≤ oD b u v m) : coB b u v = false := by
  rcases xJ b u v m with ⟨_, h1⟩ | ⟨k, _, h1, _⟩
  · exact v31 hb h1
  · omega
def CJ (b : List Int) (u v : Int) (j : Nat) (f : Bool) : Prop := f = (ka5 j (uG b)).any (ctE (u, v))
theorem CJ.zero (b : List Int) (u v : Int) : CJ b u v 0 false := rfl
theorem CJ.yes {b : List Int} {u v : Int} {j m : Nat} (h : CJ b u v j false) (hb : b.length = m * 2) (hj : j < m) (h1 : ka1 b (j * 2) 0 ≤ u ∧ v ≤ ka1 b (j * 2 + 1) 0) : CJ b u v (j + 1) true := by
  unfold CJ at *; rw [yQ hb hj, ko0, ← h]
  show true = (decide _ || false)
  rw [decide_eq_true (show ka1 b (j * 2) 0 ≤ u ∧ v ≤ ka1 b (j * 2 + 1) 0 from h1)]; rfl
theorem CJ.no {b : List Int} {u v : Int} {j m : Nat} (h : CJ b u v j false) (hb : b.length = m * 2) (hj : j < m) (h1 : ¬ (ka1 b (j * 2) 0 ≤ u ∧ v ≤ ka1 b (j * 2 + 1) 0)) : CJ b u v (j + 1) false := by
  unfold CJ at *; rw [yQ hb hj, ko0, ← h]
  show false = (decide _ || false)
  rw [decide_eq_false (show ¬ (ka1 b (j * 2) 0 ≤ u ∧ v ≤ ka1 b (j * 2 + 1) 0) from h1)]; rfl
theorem CJ.fin {b : List Int} {u v : Int} {j m : Nat} {f : Bool} (h : CJ b u v j f) (hb : b.length = m * 2) (hj : m ≤ j) : coB b u v = f := by
  unfold CJ at h; rw [kb7 (by rw [qX hb]; exact hj)] at h; exact h.symm
theorem gM {a b : Int} : 0 ≤ vA a b := by unfold vA; split <;> omega
theorem vG (x : Int) : IntKind.u64.wrap x = x % 18446744073709551616 := by simp [IntKind.wrap, IntKind.bits, IntKind.signed]
end Go.Proofs.YtcfmjpnffembpaaGreat
