/- What a function gives, told as what is read alone. No statement is proved here. -/
import Derived.Test.YtkjmlililpgamaaZAmU
import Derived.Test.YtkjmlililpgamaaZAmD
namespace Go.Proofs.Ytkjmlililpgamaa
open Go.ChangeShapes Go.WideShapes Go.ChangeAt Go.RowKit
set_option linter.unusedVariables false
set_option linter.unusedSimpArgs false
theorem HRep.freeze {cx : Cx} {ρ : Rh} {w : World} {b : Nat} {g g' : List (Nat × Option Bk)} {T : TypeId} {ds : List D} (hb : Look g b (some (T, ds.map .d))) (hg : FzG b ds g g') (h2 : HRep cx ρ w (S g)) :
  ∃ ρ' : Rh, (∀ x, ρ' x = ρ x) ∧ HRep cx ρ' w (S g') ∧ ∀ (u u' : PV) (v : Value), FzPV b ds u u' → RepPV cx.p ρ w u v → RepPV cx.p ρ' w u' v := by
 obtain ⟨m, k1, k2⟩ := h2.row b T _ hb.S
 have hr : (m.nl = true ∧ ds = []) ∨ (m.nl = false ∧ Row cx.p ρ w m T (ds.map .d)) := k2.imp (fun k => ⟨k.1, List.map_eq_nil_iff.1 k.2⟩) (fun k => ⟨k.1, k.2.1⟩)
 obtain ⟨ρ', hgo, hf, hz, hzb⟩ : ∃ ρ' : Rh, Goes cx.p ρ ρ' w w ∧ (∀ x, ρ' x = ρ x) ∧ (m.nl = false → ρ'.z m.g) ∧ (∀ k, ρ'.z k → ρ.z k ∨ (m.nl = false ∧ k = m.g)) := by
  cases hn : m.nl with
  | true => exact ⟨ρ, Goes.refl _ _ _, fun _ => rfl, fun h => (by cases h), fun k h => .inl h⟩
  | false => exact ⟨ρ.freeze m.g, dE _, fun _ => rfl, fun _ => .inr rfl, fun k h => h.imp id (fun h => ⟨rfl, h⟩)⟩
 have hgl : ∀ x T' cs', S g' x = some (T', cs') → x ≠ b ∧ ∃ cs, S g x = some (T', cs) ∧ All2 (FzC b ds) cs cs' := by
  intro x T' cs' hx
  unfold Proofs.Ytkjmlililpgamaa.S at hx
  cases hl : g'.lookup x with
  | none => rw [hl] at hx; cases hx
  | some o =>
   rw [hl] at hx; simp at hx; subst hx
   obtain ⟨q1, cs, q2, q3⟩ := hg.get _ (qI hl) T' cs' rfl
   exact ⟨q1, cs, q2.S, q3⟩
 have hlive : ∀ x, S g' x ≠ none → x ≠ b ∧ S g x ≠ none := by
  intro x hx
  obtain ⟨⟨T', cs'⟩, e⟩ := Option.ne_none_iff_exists'.1 hx
  obtain ⟨q1, cs, q2, _⟩ := hgl x T' cs' e
  exact ⟨q1, by rw [q2]; simp⟩
 refine ⟨ρ', hf, ⟨?_, ?_, ?_, ?_, ?_⟩, fun u u' v q1 q2 => q1.rep hgo hz k1 hr q2⟩
 ·intro x T' cs' hx
  obtain ⟨q1, cs, q2, q3⟩ := hgl x T' cs' hx
  obtain ⟨m', p1, p2⟩ := h2.row x T' cs q2
  refine ⟨m', by rw [hf]; exact p1, ?_⟩
  rcases p2 with ⟨p2, p3⟩ | ⟨p2, ⟨vs, rest, r1, r2, r3⟩, p4⟩
  ·subst p3
   cases cs' with
   | nil => exact .inl ⟨p2, rfl⟩
   | cons _ _ => cases q3
  ·exact .inr ⟨p2, ⟨vs, rest, r1, r2, qD (R := FzC b ds) (T := RepC cx.p ρ w) (U := RepC cx.p ρ' w) (fun _ _ _ h3 h4 => h3.rep hgo hz k1 hr h4) q3 r3⟩, p4⟩
 ·intro x x' m1 m2 hx hx' hm1 hm2 hn1 hn2 he
  rw [hf] at hm1 hm2
  exact h2.inj x x' m1 m2 (hlive x hx).2 (hlive x' hx').2 hm1 hm2 hn1 hn2 he
 ·intro x m1 hx hm1 hn1 hzz
  rw [hf] at hm1
  rcases hzb _ hzz with hz' | ⟨hn, hz'⟩
  ·exact h2.zf x m1 (hlive x hx).2 hm1 hn1 hz'
  ·exact (hlive x hx).1 (h2.inj x b m1 m (hlive x hx).2 (by rw [hb.S]; simp) hm1 k1 hn1 hn hz')
 ·intro k hk
  rcases hzb k hk with hz' | ⟨hn, rfl⟩
  ·exact h2.zm k hz'
  ·rcases k2 with ⟨k2, _⟩ | ⟨_, _, k4⟩
   ·rw [hn] at k2; cases k2
   ·exact k4
 ·intro k hk
  rcases hzb k hk with hz' | ⟨hn, rfl⟩
  ·exact h2.zl k hz'
  ·rcases k2 with ⟨k2, _⟩ | ⟨_, k3, _⟩
   ·rw [hn] at k2; cases k2
   ·exact k3.lt
theorem k3m {f : FuncId} {xs : List E1} {g0 : List (Nat × Option Bk)} {g1 g1' : EH} {n0 n1 : Nat} {y y' : PV} (b : Nat) {T : TypeId} {ds : List D} (h : Fun f xs g0 n0 y (kC g1) n1) (hb : g1.lookup b = some (some (T, .ds ds))) (hg : FzG b ds (kC g1) (kC g1')) (hy : FzPV b ds y y') : Fun f xs g0 n0 y' (kC g1') n1 := by
 intro cx args hn hh ha
 refine (h cx args hn hh ha).mono ?_
 rintro e w' ⟨v, ρ', rfl, h1, h2, h3, h4, h5⟩
 obtain ⟨ρ2, q1, q2, q3⟩ := HRep.freeze (kX hb) hg h3
 exact ⟨v, ρ2, rfl, fun b m hb => by rw [q1]; exact h1 b m hb, fun b hb => by rw [q1]; exact h2 b hb, q2, h4, q3 _ _ _ hy h5⟩
inductive NlC : C → C → Prop where
 | same (c : C) : NlC c c
 | nil : NlC (.d (.lit (.slice none 0 0))) (.d (.sl [] 0))
inductive NlE : E1 → E1 → Prop where
 | same (x : E1) : NlE x x
 | c {x y : C} (h : NlC x y) : NlE (.c x) (.c y)
 | agg {xs ys : List C} (h : All2 NlC xs ys) : NlE (.agg xs) (.agg ys)
inductive NlPV : PV → PV → Prop where
 | e {x y : E1} (h : NlE x y) : NlPV (.e x) (.e y)
 | tup {xs ys : List E1} (h : All2 NlE xs ys) : NlPV (.tup xs) (.tup ys)
 | same (x : PV) : NlPV x x
theorem NlC.rep {p : Nat → Prop} {ρ : Rh} {w : World} {x y : C} (h : NlC x y) {v : Value} (hc : RepC p ρ w x v) : RepC p ρ w y v := by
 cases h with
 | same => exact hc
 | nil =>
  cases hc with
  | d h => cases h with
   | lit v h => exact .d (.nil none 0 (Nat.zero_le _) (fun _ => rfl))
theorem NlE.rep {p : Nat → Prop} {ρ : Rh} {w : World} {x y : E1} (h : NlE x y) {v : Value} (hc : RepE p ρ w x v) : RepE p ρ w y v := by
 cases h with
 | same => exact hc
 | c h => exact h.rep hc
 | agg h => obtain ⟨us, e, h2⟩ := hc; exact ⟨us, e, qD (R := NlC) (T := RepC p ρ w) (U := RepC p ρ w) (fun _ _ _ h3 h4 => h3.rep h4) h h2⟩
theorem NlPV.rep {p : Nat → Prop} {ρ : Rh} {w : World} {x y : PV} (h : NlPV x y) {v : Value} (hc : RepPV p ρ w x v) : RepPV p ρ w y v := by
 cases h with
 | e h => exact h.rep hc
 | tup h => obtain ⟨us, e, h2⟩ := hc; exact ⟨us, e, qD (R := NlE) (T := RepE p ρ w) (U := RepE p ρ w) (fun _ _ _ h3 h4 => h3.rep h4) h h2⟩
 | same => exact hc
theorem k3l {f : FuncId} {xs : List E1} {g0 g1 : List (Nat × Option Bk)} {n0 n1 : Nat} {y y' : PV} (h : Fun f xs g0 n0 y g1 n1) (hy : NlPV y y') : Fun f xs g0 n0 y' g1 n1 := by
 intro cx args hn hh ha
 refine (h cx args hn hh ha).mono ?_
 rintro e w' ⟨v, ρ', rfl, h1, h2, h3, h4, h5⟩
 exact ⟨v, ρ', rfl, h1, h2, h3, h4, hy.rep h5⟩
theorem FzG.skip {b x : Nat} {ds : List D} {g g2 : EH} (hg : FzG b ds (kC g) (kC g2)) : FzG b ds (kC g) (kC ((x, none) :: g2)) := ⟨fun T cs' h => (by cases h), hg⟩
def NlS (l : List (Nat × PV)) : List (Nat × PV) → Prop
 | [] => True
 | (t, u) :: l2 => (∃ v, Look l t v ∧ NlPV v u) ∧ NlS l l2
theorem NlS.get {l : List (Nat × PV)} : ∀ {l2 : List (Nat × PV)}, NlS l l2 → ∀ x ∈ l2, ∃ v, Look l x.1 v ∧ NlPV v x.2
 | (t, u) :: l2, h, x, hx => by
  rcases List.mem_cons.1 hx with rfl | hx
  ·exact h.1
  ·exact NlS.get h.2 x hx
def NlG (g : List (Nat × Option Bk)) : List (Nat × Option Bk) → Prop
 | [] => True
 | (x, o) :: g2 => (∀ T cs', o = some (T, cs') → ∃ cs, Look g x (some (T, cs)) ∧ All2 NlC cs cs') ∧ NlG g g2
theorem NlG.get {g : List (Nat × Option Bk)} : ∀ {g2 : List (Nat × Option Bk)}, NlG g g2 → ∀ x ∈ g2, ∀ T cs', x.2 = some (T, cs') → ∃ cs, Look g x.1 (some (T, cs)) ∧ All2 NlC cs cs'
 | (t, u) :: l2, h, x, hx => by
  rcases List.mem_cons.1 hx with rfl | hx
  ·exact h.1
  ·exact NlG.get h.2 x hx
theorem dN {cx : Cx} {n nx : Nat} {c : Code} {Q : qR} {l l' : List (Nat × PV)} {g g' : EH} (hs : NlS l l') (hg : NlG (kC g) (kC g')) (h : AW cx n c Q ⟨l', kC g', nx⟩) : AW cx n c Q ⟨l, kC g, nx⟩ := by
 intro a w hm
 refine h a w ?_
 obtain ⟨ρ, h1, h2, h3, h4, h5, h6, h9⟩ := hm
 have hgl : ∀ x T' cs', S (kC g') x = some (T', cs') → ∃ cs, S (kC g) x = some (T', cs) ∧ All2 NlC cs cs' := by
  intro x T' cs' hx
  unfold Proofs.Ytkjmlililpgamaa.S at hx
  cases hl : (kC g').lookup x with
  | none => rw [hl] at hx; cases hx
  | some o =>
   rw [hl] at hx; simp at hx; subst hx
   obtain ⟨cs, q2, q3⟩ := hg.get _ (qI hl) T' cs' rfl
   exact ⟨cs, q2.S, q3⟩
 have hlive : ∀ x, S (kC g') x ≠ none → S (kC g) x ≠ none := by
  intro x hx
  obtain ⟨⟨T', cs'⟩, e⟩ := Option.ne_none_iff_exists'.1 hx
  obtain ⟨cs, q2, _⟩ := hgl x T' cs' e
  rw [q2]; simp
 refine ⟨ρ, h1, ⟨?_, ?_, ?_, h2.zm, h2.zl⟩, ?_, h4, h5, h6, h9⟩
 ·intro x T' cs' hx
  obtain ⟨cs, q2, q3⟩ := hgl x T' cs' hx
  obtain ⟨m', p1, p2⟩ := h2.row x T' cs q2
  refine ⟨m', p1, ?_⟩
  rcases p2 with ⟨p2, p3⟩ | ⟨p2, ⟨vs, rest, r1, r2, r3⟩, p4⟩
  ·subst p3
   cases cs' with
   | nil => exact .inl ⟨p2, rfl⟩
   | cons _ _ => cases q3
  ·exact .inr ⟨p2, ⟨vs, rest, r1, r2, qD (R := NlC) (T := RepC cx.p ρ w) (U := RepC cx.p ρ w) (fun _ _ _ h3 h4 => h3.rep h4) q3 r3⟩, p4⟩
 ·intro x x' m1 m2 hx hx' hm1 hm2 hn1 hn2 he
  exact h2.inj x x' m1 m2 (hlive x hx) (hlive x' hx') hm1 hm2 hn1 hn2 he
 ·intro x m1 hx hm1 hn1
  exact h2.zf x m1 (hlive x hx) hm1 hn1
 ·intro t
  unfold Proofs.Ytkjmlililpgamaa.S
  cases hl : l'.lookup t with
  | none => exact trivial
  | some u =>
   obtain ⟨v, q1, q2⟩ := hs.get _ (qI hl)
   have := h3 t
   rw [q1.S] at this
   exact q2.rep this
theorem NlS.nil {l : List (Nat × PV)} : NlS l [] := trivial
theorem NlS.cons {t : Nat} {l l2 : List (Nat × PV)} {u v : PV} (hl : l.lookup t = some v) (h : NlPV v u) (hs : NlS l l2) : NlS l ((t, u) :: l2) := ⟨⟨v, qJ hl, h⟩, hs⟩
theorem NlL.same : ∀ cs : List C, All2 NlC cs cs
 | [] => trivial
 | c :: cs => ⟨.same c, NlL.same cs⟩
theorem NlG.nil {g : EH} : NlG (kC g) (kC []) := trivial
theorem tW {x : Nat} {g g2 : EH} {T : TypeId} {bc : BC} (hl : g.lookup x = some (some (T, bc))) (hg : NlG (kC g) (kC g2)) : NlG (kC g) (kC ((x, some (T, bc)) :: g2)) := by
 refine ⟨fun T' cs' h => ?_, hg⟩
 cases h
 exact ⟨bc.to, kX hl, NlL.same _⟩
theorem NlG.to {x : Nat} {g g2 : EH} {T : TypeId} {bc bc' : BC} (hl : g.lookup x = some (some (T, bc))) (h : All2 NlC bc.to bc'.to) (hg : NlG (kC g) (kC g2)) : NlG (kC g) (kC ((x, some (T, bc')) :: g2)) := by
 refine ⟨fun T' cs' h9 => ?_, hg⟩
 cases h9
 exact ⟨bc.to, kX hl, h⟩
theorem NlL.nil : All2 NlC [] [] := trivial
theorem NlL.cons {x y : C} {xs ys : List C} (h : NlC x y) (hs : All2 NlC xs ys) : All2 NlC (x :: xs) (y :: ys) := ⟨h, hs⟩
end Go.Proofs.Ytkjmlililpgamaa
