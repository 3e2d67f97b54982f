/- A memory told by names: small lemmas for what is computed. No statement is proved here. -/
import Derived.Test.YtkjmlililpgamaaZAmJ
import Derived.LoopN
namespace Go.Proofs.Ytkjmlililpgamaa
open Go.ChangeShapes Go.WideShapes Go.ChangeAt Go.RowKit
open List renaming lookup_cons → kc2
set_option linter.unusedVariables false
set_option linter.unusedSimpArgs false
theorem tG (k : IntKind) (l l' : List Int) : dI k l ++ dI k l' = dI k (l ++ l') := by unfold dI; simp
theorem qW {cx : Cx} {n nx : Nat} {c : Code} {Q : qR} {s : ES} {l : List (Nat × PV)} {g : EH} (h1 : s.l = l) (h2 : s.g = g) (h3 : s.nx = nx) (h : AW cx n c Q ⟨l, kC g, nx⟩) : AW cx n c Q s.st := by subst h1; subst h2; subst h3; exact h
/-! short names for what a text says most -/
abbrev iD (x : Int) : D := .lit (.int .i64 x)
abbrev iE (x : Int) : E1 := .c (.d (.lit (.int .i64 x)))
abbrev iV (x : Int) : PV := .e (.c (.d (.lit (.int .i64 x))))
abbrev oV (b off n s : Nat) : PV := .e (.c (.own b off n s true))
abbrev rV (b off : Nat) : PV := .e (.c (.ptr b off))
def AWr (cx : Cx) (n : Nat) (c : Code) (Q : qR) : Nat → St → Prop
 | 0, _ => False
 | k + 1, s => AW cx n c (cK (AWr cx n c Q k) Q) s
theorem AWr.s {cx : Cx} {n : Nat} {c : Code} {Q : qR} {k : Nat} {s : St} (h : AW cx n c (cK (AWr cx n c Q k) Q) s) : AWr cx n c Q (k + 1) s := h
theorem AWr.ok {cx : Cx} {n : Nat} {c : Code} {Q : qR} : ∀ {k : Nat} {s : St}, AWr cx n c Q k s → ∀ a w, Mod cx n s.l s.g s.nx a w → Code.rounds Try.prog c (fun e a' w' => ∃ s', Q e s' ∧ Mod cx n s'.l s'.g s'.nx a' w') k a w
 | 0, _, h, _, _, _ => h.elim
 | k + 1, s, h, a, w, hm => by
  refine wp_mono (h a w hm) ?_
  rintro e a' w' ⟨s', h1, h2⟩
  cases e with
  | normal => exact AWr.ok (k := k) h1 a' w' h2
  | _ => exact ⟨s', h1, h2⟩
theorem AW.rounds {cx : Cx} {n : Nat} {c : Code} {Q : qR} {s : St} (k : Nat) (h : AWr cx n c Q k s) : AW cx n (.loop c) Q s := fun a w hm => wp_loop_rounds k (h.ok a w hm)
theorem AWr.same {cx : Cx} {n n0 : Nat} {c : Code} {Q : qR} (hn : cx.n0 = n0) : ∀ {k : Nat} {s t : St}, tU n0 s t → AWr cx n c Q k t → AWr cx n c Q k s
 | 0, _, _, _, h => h.elim
 | _ + 1, _, _, ⟨σ, h1, h2⟩, h => AW.ren σ n0 _ hn h1 h2 h
theorem Mod.adoptS {cx : Cx} {n nx : Nat} {l l' : List (Nat × PV)} {g : List (Nat × Option Bk)} {t s : Nat} {T2 : TypeId} (hc : l.lookup t = some (LV vI)) {a : Act} {w : World} (h : Mod cx n l g nx a w) : Mod cx n ((t, .e (.c (.own nx 0 0 s true))) :: l) ((nx, some (T2, [])) :: g) (nx + 1) a w := by
 obtain ⟨ρ, h1, h2, h3, h4, h5, h6, h9⟩ := h
 have hnx : ρ nx = none := h6 nx (Nat.le_refl _)
 have hgo : Goes cx.p ρ (ρ.set nx ⟨0, 0, true⟩) w w := by
  refine ⟨fun b m hb => ?_, fun _ h => h, Nat.le_refl _, fun _ _ _ => rfl⟩
  have : b ≠ nx := fun e => by rw [e, hnx] at hb; cases hb
  simp [this, hb]
 refine ⟨ρ.set nx ⟨0, 0, true⟩, h1, ⟨?_, ?_, ?_, h2.zm, h2.zl⟩, ?_, h4, h5, ?_, fun b m hb => hgo.ext _ _ (h9 b m hb)⟩
 ·intro x T' cs' hx
  unfold Proofs.Ytkjmlililpgamaa.S at hx
  rw [kc2] at hx
  by_cases hxn : x = nx
  ·subst hxn
   simp at hx
   obtain ⟨rfl, rfl⟩ := hx
   exact ⟨⟨0, 0, true⟩, by simp, .inl ⟨rfl, rfl⟩⟩
  ·have hxn' : (x == nx) = false := by simpa using hxn
   simp only [hxn'] at hx
   obtain ⟨m', q1, q2⟩ := h2.row x T' cs' hx
   refine ⟨m', by simp [hxn, q1], ?_⟩
   rcases q2 with q2 | ⟨q2, q3, q4⟩
   ·exact .inl q2
   ·exact .inr ⟨q2, q3.mono hgo rfl, q4⟩
 ·have hlive : ∀ x, x ≠ nx → S ((nx, some (T2, ([] : List C))) :: g) x ≠ none → S g x ≠ none := by
   intro x hxn hx
   unfold Proofs.Ytkjmlililpgamaa.S at hx ⊢
   rw [kc2] at hx
   simpa [show (x == nx) = false by simpa using hxn] using hx
  intro x x' m1 m2 hx hx' hm1 hm2 hn1 hn2 he
  by_cases hxn : x = nx
  ·subst hxn; simp at hm1; subst hm1; cases hn1
  ·by_cases hxn' : x' = nx
   ·subst hxn'; simp at hm2; subst hm2; cases hn2
   ·simp [hxn] at hm1; simp [hxn'] at hm2
    exact h2.inj x x' m1 m2 (hlive x hxn hx) (hlive x' hxn' hx') hm1 hm2 hn1 hn2 he
 ·have hlive : ∀ x, x ≠ nx → S ((nx, some (T2, ([] : List C))) :: g) x ≠ none → S g x ≠ none := by
   intro x hxn hx
   unfold Proofs.Ytkjmlililpgamaa.S at hx ⊢
   rw [kc2] at hx
   simpa [show (x == nx) = false by simpa using hxn] using hx
  intro x m1 hx hm1 hn1
  by_cases hxn : x = nx
  ·subst hxn; simp at hm1; subst hm1; cases hn1
  ·simp [hxn] at hm1; exact h2.zf x m1 (hlive x hxn hx) hm1 hn1
 ·intro u
  unfold Proofs.Ytkjmlililpgamaa.S
  rw [kc2]
  by_cases hu : u = t
  ·subst hu
   have h8 := h3 u
   rw [c8 hc] at h8
   have h8 := kG h8
   simp only [beq_self_eq_true, Option.getD_some]
   rw [h8]
   exact .ownn nx s ⟨0, 0, true⟩ (by simp) rfl
  ·have hu' : (u == t) = false := by simpa using hu
   simp only [hu']
   exact (h3 u).mono hgo
 ·intro x hx
  have : x ≠ nx := by omega
  simp [this, h6 x (by omega)]
theorem AW.adoptS {cx : Cx} {n nx : Nat} {c : Code} {Q : qR} {l : List (Nat × PV)} {g : EH} (t s : Nat) (T2 : TypeId) (hc : l.lookup t = some (LV vI)) (h : AW cx n c Q ⟨(t, .e (.c (.own nx 0 0 s true))) :: l, kC ((nx, some (T2, .ds [])) :: g), nx + 1⟩) : AW cx n c Q ⟨l, kC g, nx⟩ := fun a w hm => h a w (hm.adoptS (l' := l) hc)
abbrev dl (l : List Int) (n : Nat) : D := D.sl (dI .i64 l) n
abbrev dm (l : List Int) (n : Nat) : D := D.sl (dI .i32 l) n
abbrev db (l : List Int) (n : Nat) : D := D.sl (dI .u8 l) n
abbrev uD (n : Nat) : D := iD (n : Int)
abbrev uE (n : Nat) : E1 := iE (n : Int)
abbrev uV (n : Nat) : PV := iV (n : Int)
abbrev uC : D := D.lit (.slice none 0 0)
abbrev zc9 : List D := [iD 0, iD 0, uC, iD 0, iD 0, uC, iD 0, iD 0, uC, iD 0, iD 0, iD 0, iD 0, iD 0, iD 0, uC]
theorem zr {cx : Cx} {n id nx : Nat} {draw : Bool} {ops : List Oper} {Q : qR} {c : Code} {l : List (Nat × PV)} {g : EH} (hs : List H) (live kb : List Nat) (P : Prop) (l' : List (Nat × PV)) (g' : EH) (nx' : Nat) (hP : P) (hQ : AW cx n c Q ⟨l', kC g', nx'⟩) (h : cS Try.prog Fun n ops hs l g nx live kb = some (P, l', g', nx') := by kernel_rfl) : AW cx n (.seq (.region id ops.toArray draw) c) Q ⟨l, kC g, nx⟩ := gQ hs live kb h hP hQ
theorem zg {cx : Cx} {n id nx : Nat} {draw : Bool} {ops : List Oper} {Q : qR} {l : List (Nat × PV)} {g : EH} (hs : List H) (live kb : List Nat) (P : Prop) (l' : List (Nat × PV)) (g' : EH) (nx' : Nat) (hP : P) (hQ : Q .normal ⟨l', kC g', nx'⟩) (h : cS Try.prog Fun n ops hs l g nx live kb = some (P, l', g', nx') := by kernel_rfl) : AW cx n (.region id ops.toArray draw) Q ⟨l, kC g, nx⟩ := jJ hs live kb h hP hQ
theorem zf {cx : Cx} {n : Nat} {Q : qR} {l : List (Nat × PV)} {g : List (Nat × Option Bk)} {nx : Nat} {c : Operand} {x y : Code} (h : AW cx n y Q ⟨l, g, nx⟩) (hc : Ev l c (LV (.bool false)) := by exact .tmp (qJ rfl)) : AW cx n (.cond c x y) Q ⟨l, g, nx⟩ := eT hc h
theorem zt {cx : Cx} {n : Nat} {Q : qR} {l : List (Nat × PV)} {g : List (Nat × Option Bk)} {nx : Nat} {c : Operand} {x y : Code} (h : AW cx n x Q ⟨l, g, nx⟩) (hc : Ev l c (LV (.bool true)) := by exact .tmp (qJ rfl)) : AW cx n (.cond c x y) Q ⟨l, g, nx⟩ := eS hc h
theorem uF {cx : Cx} {n : Nat} {Q : qR} {l : List (Nat × PV)} {g : List (Nat × Option Bk)} {nx : Nat} {c : Operand} {x : Code} (h : Q .normal ⟨l, g, nx⟩) (hc : Ev l c (LV (.bool false)) := by exact .tmp (qJ rfl)) : AW cx n (.cond c x .skip) Q ⟨l, g, nx⟩ := eT hc (AW.skip h)
theorem cB {cx : Cx} {n : Nat} {Q : qR} {l : List (Nat × PV)} {g : List (Nat × Option Bk)} {nx : Nat} {c : Operand} {y : Code} (h : Q .normal ⟨l, g, nx⟩) (hc : Ev l c (LV (.bool true)) := by exact .tmp (qJ rfl)) : AW cx n (.cond c .skip y) Q ⟨l, g, nx⟩ := eS hc (AW.skip h)
abbrev kT (a : Nat) : Prop := a = a
abbrev k8 (a : Int) : Prop := a = a
abbrev kR (a : List D) : Prop := a = a
abbrev q9l (a : List Int) : Prop := a = a
abbrev q9m (a : List (List Int)) : Prop := a = a
abbrev qA (k : Nat) (l : List H) : List H := List.replicate k .no ++ l
theorem zs {cx : Cx} {n id nx : Nat} {draw : Bool} {ops : List Oper} {Q : qR} {c : Code} {l : List (Nat × PV)} {g : EH} (hs : List H) (live kb : List Nat) (P : Prop) (l' : List (Nat × PV)) (hP : P) (hQ : AW cx n c Q ⟨l', kC g, nx⟩) (h : cS Try.prog Fun n ops hs l g nx live kb = some (P, l', g, nx) := by kernel_rfl) : AW cx n (.seq (.region id ops.toArray draw) c) Q ⟨l, kC g, nx⟩ := gQ hs live kb h hP hQ
theorem zh {cx : Cx} {n id nx : Nat} {draw : Bool} {ops : List Oper} {Q : qR} {l : List (Nat × PV)} {g : EH} (hs : List H) (live kb : List Nat) (P : Prop) (l' : List (Nat × PV)) (hP : P) (hQ : Q .normal ⟨l', kC g, nx⟩) (h : cS Try.prog Fun n ops hs l g nx live kb = some (P, l', g, nx) := by kernel_rfl) : AW cx n (.region id ops.toArray draw) Q ⟨l, kC g, nx⟩ := jJ hs live kb h hP hQ
theorem kI {cx : Cx} {n id nx : Nat} {draw : Bool} {ops : List Oper} {Q : qR} {c : Code} {l : List (Nat × PV)} {g : EH} (hs : List H) (P : Prop) (l' : List (Nat × PV)) (g' : EH) (nx' : Nat) (hP : P) (hQ : AW cx n c Q ⟨l', kC g', nx'⟩) (h : cS Try.prog Fun n ops hs l g nx (l'.map Prod.fst) (g'.map Prod.fst) = some (P, l', g', nx') := by kernel_rfl) : AW cx n (.seq (.region id ops.toArray draw) c) Q ⟨l, kC g, nx⟩ := gQ hs _ _ h hP hQ
theorem bQ {cx : Cx} {n id nx : Nat} {draw : Bool} {ops : List Oper} {Q : qR} {l : List (Nat × PV)} {g : EH} (hs : List H) (P : Prop) (l' : List (Nat × PV)) (g' : EH) (nx' : Nat) (hP : P) (hQ : Q .normal ⟨l', kC g', nx'⟩) (h : cS Try.prog Fun n ops hs l g nx (l'.map Prod.fst) (g'.map Prod.fst) = some (P, l', g', nx') := by kernel_rfl) : AW cx n (.region id ops.toArray draw) Q ⟨l, kC g, nx⟩ := jJ hs _ _ h hP hQ
theorem yT {cx : Cx} {n id nx : Nat} {draw : Bool} {ops : List Oper} {Q : qR} {c : Code} {l : List (Nat × PV)} {g : EH} (hs : List H) (P : Prop) (l' : List (Nat × PV)) (hP : P) (hQ : AW cx n c Q ⟨l', kC g, nx⟩) (h : cS Try.prog Fun n ops hs l g nx (l'.map Prod.fst) (g.map Prod.fst) = some (P, l', g, nx) := by kernel_rfl) : AW cx n (.seq (.region id ops.toArray draw) c) Q ⟨l, kC g, nx⟩ := gQ hs _ _ h hP hQ
theorem cG {cx : Cx} {n id nx : Nat} {draw : Bool} {ops : List Oper} {Q : qR} {l : List (Nat × PV)} {g : EH} (hs : List H) (P : Prop) (l' : List (Nat × PV)) (hP : P) (hQ : Q .normal ⟨l', kC g, nx⟩) (h : cS Try.prog Fun n ops hs l g nx (l'.map Prod.fst) (g.map Prod.fst) = some (P, l', g, nx) := by kernel_rfl) : AW cx n (.region id ops.toArray draw) Q ⟨l, kC g, nx⟩ := jJ hs _ _ h hP hQ
theorem kQ {P : Prop} (h : P := by with_reducible assumption) : P := h
abbrev uT (l : List D) (n : Nat) : PV := .e (.c (.d (.sl l n)))
abbrev kL (d : D) : PV := .e (.c (.d d))
end Go.Proofs.Ytkjmlililpgamaa
