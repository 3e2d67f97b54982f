/- A memory told by names: the ways through a body, calls and what functions do. No statement is proved here. -/
import Derived.Test.YtkjmlililpgamaaZAm7
import Derived.Deep.LoopGhost
import Derived.Scope
namespace Go.Proofs.Ytkjmlililpgamaa
open Go.ChangeShapes Go.WideShapes Go.ChangeAt Go.RowKit
open Nat renaming beq → kd4, blt → kg3, le_of_ble_eq_true → ka3, le_refl → kc1
set_option linter.unusedVariables false
set_option linter.unusedSimpArgs false
/-! other names -/
def uO (σ : Nat → Nat) : C → C
 | .own b off len s wh => .own (σ b) off len s wh
 | .ptr b off => .ptr (σ b) off
 | .fn f qs => .fn f (qs.map fun q => (σ q.1, q.2))
 | c => c
def fX (σ : Nat → Nat) : E1 → E1
 | .c x => .c (uO σ x)
 | .agg cs => .agg (cs.map (uO σ))
def aV (σ : Nat → Nat) : PV → PV
 | .e x => .e (fX σ x)
 | .tup l => .tup (l.map (fX σ))
 | .any => .any
def aB (σ : Nat → Nat) : Option Bk → Option Bk
 | some (T, cs) => some (T, cs.map (uO σ))
 | none => none
def vJ (n : Nat) : C → Bool
 | .own b _ _ _ _ => kg3 b n
 | .ptr b _ => kg3 b n
 | .fn _ qs => qs.all fun q => kg3 q.1 n
 | _ => true
def wT (n : Nat) : E1 → Bool
 | .c x => vJ n x
 | .agg cs => cs.all (vJ n)
def eJ (n : Nat) : PV → Bool
 | .e x => wT n x
 | .tup l => l.all (wT n)
 | .any => true
theorem All2.mapL {α β γ : Type} {R : α → β → Prop} {R' : γ → β → Prop} (f : α → γ) (h : ∀ a b, R a b → R' (f a) b) : ∀ {xs : List α} {ys : List β}, All2 R xs ys → All2 R' (xs.map f) ys
 | [], [], _ => trivial
 | _ :: _, _ :: _, hh => ⟨h _ _ hh.1, All2.mapL f h hh.2⟩
theorem All2.unmapL {α β γ : Type} {R : α → β → Prop} {R' : γ → β → Prop} (f : α → γ) (q : α → Bool) (h : ∀ a b, q a = true → R' (f a) b → R a b) : ∀ {xs : List α} {ys : List β}, xs.all q = true → All2 R' (xs.map f) ys → All2 R xs ys
 | [], [], _, _ => trivial
 | _ :: _, _ :: _, hq, hh => by rw [List.all_cons, Bool.and_eq_true] at hq; exact ⟨h _ _ hq.1 hh.1, All2.unmapL f q h hq.2 hh.2⟩
theorem RepC.map {p p' : Nat → Prop} {ρ1 ρ2 : Rh} {w : World} {σ : Nat → Nat} (h : ∀ b m, ρ1 b = some m → ρ2 (σ b) = some m) (hz : ∀ k, pz p ρ1 k → pz p' ρ2 k) {c : C} {v : Value} (hc : RepC p ρ1 w c v) : RepC p' ρ2 w (uO σ c) v := by
 cases hc with
 | d h => exact .d (h.mono hz (kc1 _) (fun _ _ _ => rfl))
 | own b off len s wh m cap hm hn h1 h2 h3 => exact .own _ off len s wh m cap (h _ _ hm) hn h1 h2 h3
 | ownn b s m hm hn => exact .ownn _ s m (h _ _ hm) hn
 | own0 b off s a cap hm ha => exact .own0 _ off s a cap hm ha
 | ptr b off m hm hn => exact .ptr _ off m (h _ _ hm) hn
 | rp ds us b off hl hc hr hp hb => exact .rp ds us b off hl hc (fun i d u h1 h2 => (hr i d u h1 h2).mono hz (kc1 _) (fun _ _ _ => rfl)) (hz b hp) hb
 | fn f qs us hq => exact .fn f _ us (hq.mapL (fun q : Nat × Nat => (σ q.1, q.2)) fun q v ⟨m, h1, h2, h3⟩ => ⟨m, h _ _ h1, h2, h3⟩)
theorem RepC.unmap {p p' : Nat → Prop} {ρ1 ρ2 : Rh} {w : World} {σ : Nat → Nat} {n : Nat} (h : ∀ b, b < n → ρ1 b = ρ2 (σ b)) (hz : ∀ k, pz p ρ2 k → pz p' ρ1 k) {c : C} {v : Value} (hl : vJ n c = true) (hc : RepC p ρ2 w (uO σ c) v) : RepC p' ρ1 w c v := by
 cases c with
 | d x => cases hc with | d h => exact .d (h.mono hz (kc1 _) (fun _ _ _ => rfl))
 | own b off len s wh =>
  have hb : b < n := ka3 hl
  cases hc with
  | own _ off len s wh m cap hm hn h1 h2 h3 => exact .own _ off len s wh m cap (by rw [h b hb]; exact hm) hn h1 h2 h3
  | ownn _ s m hm hn => exact .ownn _ s m (by rw [h b hb]; exact hm) hn
  | own0 _ off s a cap hm ha => exact .own0 _ off s a cap hm ha
 | ptr b off =>
  have hb : b < n := ka3 hl
  cases hc with
  | ptr _ off m hm hn => exact .ptr _ off m (by rw [h b hb]; exact hm) hn
 | rp ds => cases hc with | rp ds us b off hl hc hr hp hb => exact .rp ds us b off hl hc (fun i d u h1 h2 => (hr i d u h1 h2).mono hz (kc1 _) (fun _ _ _ => rfl)) (hz b hp) hb
 | fn f qs =>
  obtain ⟨us, rfl, hq⟩ : ∃ us : List Value, v = rB f us ∧ All2 (tV ρ2) (qs.map fun q => (σ q.1, q.2)) us := by cases hc with | fn _ _ us hq => exact ⟨us, rfl, hq⟩
  exact .fn f qs us (All2.unmapL (fun q : Nat × Nat => (σ q.1, q.2)) (fun q => kg3 q.1 n) (fun q v hb ⟨m, h1, h2, h3⟩ => ⟨m, by rw [h q.1 (ka3 hb)]; exact h1, h2, h3⟩) hl hq)
theorem RepE.map {p p' : Nat → Prop} {ρ1 ρ2 : Rh} {w : World} {σ : Nat → Nat} (h : ∀ b m, ρ1 b = some m → ρ2 (σ b) = some m) (hz : ∀ k, pz p ρ1 k → pz p' ρ2 k) : ∀ {x : E1} {v : Value}, RepE p ρ1 w x v → RepE p' ρ2 w (fX σ x) v
 | .c _, _, hc => RepC.map h hz hc
 | .agg _, _, ⟨us, e, hc⟩ => ⟨us, e, hc.mapL (uO σ) fun _ _ => RepC.map h hz⟩
theorem RepPV.map {p p' : Nat → Prop} {ρ1 ρ2 : Rh} {w : World} {σ : Nat → Nat} (h : ∀ b m, ρ1 b = some m → ρ2 (σ b) = some m) (hz : ∀ k, pz p ρ1 k → pz p' ρ2 k) : ∀ {x : PV} {v : Value}, RepPV p ρ1 w x v → RepPV p' ρ2 w (aV σ x) v
 | .e _, _, hc => RepE.map h hz hc
 | .tup _, _, ⟨us, e, hc⟩ => ⟨us, e, hc.mapL (fX σ) fun _ _ => RepE.map h hz⟩
 | .any, _, _ => trivial
theorem dL {p p' : Nat → Prop} {ρ1 ρ2 : Rh} {w : World} {σ : Nat → Nat} {n : Nat} (h : ∀ b, b < n → ρ1 b = ρ2 (σ b)) (hz : ∀ k, pz p ρ2 k → pz p' ρ1 k) : ∀ {x : E1} {v : Value}, wT n x = true → RepE p ρ2 w (fX σ x) v → RepE p' ρ1 w x v
 | .c _, _, hl, hc => RepC.unmap h hz hl hc
 | .agg _, _, hl, ⟨us, e, hc⟩ => ⟨us, e, hc.unmapL _ (vJ n) (fun _ _ hq => RepC.unmap h hz hq) hl⟩
theorem bW {p p' : Nat → Prop} {ρ1 ρ2 : Rh} {w : World} {σ : Nat → Nat} {n : Nat} (h : ∀ b, b < n → ρ1 b = ρ2 (σ b)) (hz : ∀ k, pz p ρ2 k → pz p' ρ1 k) : ∀ {x : PV} {v : Value}, eJ n x = true → RepPV p ρ2 w (aV σ x) v → RepPV p' ρ1 w x v
 | .e _, _, hl, hc => dL h hz hl hc
 | .tup _, _, hl, ⟨us, e, hc⟩ => ⟨us, e, hc.unmapL _ (wT n) (fun _ _ hq => dL h hz hq) hl⟩
 | .any, _, _, _ => trivial
structure RenG (n0 : Nat) (σ : Nat → Nat) (g : List (Nat × Option Bk)) (g2 : List (Nat × Option Bk)) (nx2 : Nat) : Prop where
 blk : ∀ x ∈ g2, ∀ T cs, x.2 = some (T, cs) → cs.all (vJ nx2) = true ∧ x.1 < nx2 ∧ Look g (σ x.1) (some (T, cs.map (uO σ)))
 inj : ∀ x ∈ g2, ∀ y ∈ g2, σ x.1 = σ y.1 → x.1 = y.1
 fix : ∀ b, b < n0 → σ b = b
 low : n0 ≤ nx2
theorem RenG.base {n0 : Nat} {σ : Nat → Nat} {g : List (Nat × Option Bk)} {nx2 : Nat} (hf : ∀ b, b < n0 → σ b = b) (hl : n0 ≤ nx2) : RenG n0 σ g [] nx2 := ⟨fun x hx => (by cases hx), fun x hx => (by cases hx), hf, hl⟩
theorem RenG.cons {n0 : Nat} {σ : Nat → Nat} {g g2 : List (Nat × Option Bk)} {nx2 b k : Nat} {T : TypeId} {cs cs0 : List C} (h : RenG n0 σ g g2 nx2) (hb : kg3 b nx2 = true) (hk : σ b = k) (hL : Look g k (some (T, cs0))) (hm : cs.map (uO σ) = cs0) (hl : cs.all (vJ nx2) = true) (hi : (g2.all fun y => !(σ y.1 == k)) = true) : RenG n0 σ g ((b, some (T, cs)) :: g2) nx2 := by
 subst hm; subst hk
 rw [List.all_eq_true] at hi
 refine ⟨?_, ?_, h.fix, h.low⟩
 ·intro x hx T' cs' he
  rcases List.mem_cons.1 hx with rfl | hx
  ·simp only [Option.some.injEq, Prod.mk.injEq] at he
   obtain ⟨rfl, rfl⟩ := he
   exact ⟨hl, ka3 hb, hL⟩
  ·exact h.blk x hx T' cs' he
 ·intro x hx y hy he
  rcases List.mem_cons.1 hx with rfl | hx
  ·rcases List.mem_cons.1 hy with rfl | hy
   ·rfl
   ·have := hi y hy; simp [he] at this
  ·rcases List.mem_cons.1 hy with rfl | hy
   ·have := hi x hx; simp [he] at this
   ·exact h.inj x hx y hy he
theorem qI {X : Type} {l : List (Nat × X)} {t : Nat} {u : X} (h : l.lookup t = some u) : (t, u) ∈ l := by
 induction l with
 | nil => simp at h
 | cons x l ih =>
  rw [List.lookup_cons] at h
  by_cases hx : t == x.1
  ·simp only [hx] at h; simp at hx h; subst hx; subst h; exact List.mem_cons_self ..
  ·simp only [hx] at h; exact List.mem_cons_of_mem _ (ih h)
def wC (σ : Nat → Nat) (nx2 : Nat) (ρ : Rh) : Rh := ⟨fun b => if b < nx2 then ρ (σ b) else none, ρ.z⟩
theorem uZ {σ : Nat → Nat} {nx2 : Nat} {ρ : Rh} (b : Nat) (h : b < nx2) : wC σ nx2 ρ b = ρ (σ b) := by show (if b < nx2 then _ else _) = _; rw [if_pos h]
theorem HRep.ren {cx : Cx} {n0 nx2 : Nat} {g g2 : List (Nat × Option Bk)} {σ : Nat → Nat} (hr : RenG n0 σ g g2 nx2) {ρ : Rh} {w : World} (h2 : HRep cx ρ w (S g)) : HRep cx (wC σ nx2 ρ) w (S g2) := by
 have hblk : ∀ b T cs, S g2 b = some (T, cs) → (b, some (T, cs)) ∈ g2 := by
  intro b T cs hb
  unfold Proofs.Ytkjmlililpgamaa.S at hb
  cases hl : g2.lookup b with
  | none => rw [hl] at hb; cases hb
  | some x => rw [hl] at hb; simp at hb; subst hb; exact qI hl
 refine ⟨?_, ?_, fun b m hb hm hnl => ?_, h2.zm, h2.zl⟩
 rotate_left 2
 ·obtain ⟨⟨T, cs⟩, e1⟩ := Option.ne_none_iff_exists'.1 hb
  obtain ⟨_, q2, q3⟩ := hr.blk _ (hblk b T cs e1) T cs rfl
  rw [uZ b q2] at hm
  exact h2.zf _ m (by rw [q3.S]; simp) hm hnl
 ·intro b T cs hb
  obtain ⟨q1, q2, q3⟩ := hr.blk _ (hblk b T cs hb) T cs rfl
  obtain ⟨m, k1, k2⟩ := h2.row _ T _ q3.S
  refine ⟨m, by rw [uZ b q2]; exact k1, ?_⟩
  rcases k2 with ⟨k2, k3⟩ | ⟨k2, ⟨vs, rest, r1, r2, r3⟩, k4⟩
  ·exact .inl ⟨k2, by simpa using k3⟩
  ·exact .inr ⟨k2, ⟨vs, rest, r1, r2, r3.unmapL _ (vJ nx2) (fun _ _ hq => RepC.unmap uZ (fun _ h => h) hq) q1⟩, k4⟩
 ·intro b b' m m' hb hb' hm hm' hnl hnl' he
  obtain ⟨⟨T, cs⟩, e1⟩ := Option.ne_none_iff_exists'.1 hb
  obtain ⟨⟨T', cs'⟩, e2⟩ := Option.ne_none_iff_exists'.1 hb'
  obtain ⟨q1, q2, q3⟩ := hr.blk _ (hblk b T cs e1) T cs rfl
  obtain ⟨q1', q2', q3'⟩ := hr.blk _ (hblk b' T' cs' e2) T' cs' rfl
  rw [uZ b q2] at hm
  rw [uZ b' q2'] at hm'
  exact hr.inj _ (hblk b T cs e1) _ (hblk b' T' cs' e2) (h2.inj _ _ m m' (by rw [q3.S]; simp) (by rw [q3'.S]; simp) hm hm' hnl hnl' he)
def RenS (σ : Nat → Nat) (nx2 : Nat) (l : List (Nat × PV)) : List (Nat × PV) → Prop
 | [] => True
 | (t, u) :: l2 => (eJ nx2 u = true ∧ ∃ v, Look l t v ∧ aV σ u = v) ∧ RenS σ nx2 l l2
theorem RenS.get {σ : Nat → Nat} {nx2 : Nat} {l : List (Nat × PV)} : ∀ {l2 : List (Nat × PV)}, RenS σ nx2 l l2 → ∀ x ∈ l2, eJ nx2 x.2 = true ∧ Look l x.1 (aV σ x.2)
 | (t, u) :: l2, h, x, hx => by
  rcases List.mem_cons.1 hx with rfl | hx
  ·obtain ⟨⟨h1, v, h2, h3⟩, _⟩ := h; subst h3; exact ⟨h1, h2⟩
  ·exact RenS.get h.2 x hx
theorem Mod.ren {cx : Cx} {n nx nx2 : Nat} {l l2 : List (Nat × PV)} {g g2 : List (Nat × Option Bk)} {σ : Nat → Nat} (hs : RenS σ nx2 l l2) (hr : RenG cx.n0 σ g g2 nx2) {a : Act} {w : World} (h : Mod cx n l g nx a w) : Mod cx n l2 g2 nx2 a w := by
 obtain ⟨ρ, h1, h2, h3, h4, h5, h6, h9⟩ := h
 refine ⟨wC σ nx2 ρ, h1, h2.ren hr, ?_, h4, h5, fun b hb => by show (if b < nx2 then _ else _) = _; rw [if_neg (by omega)], ?_⟩
 ·intro t
  unfold Proofs.Ytkjmlililpgamaa.S
  cases hl : l2.lookup t with
  | none => exact trivial
  | some u =>
   obtain ⟨q1, q2⟩ := hs.get _ (qI hl)
   have := h3 t
   rw [q2.S] at this
   exact bW uZ (fun _ h => h) q1 this
 ·intro b m hm
  have hb := cx.hn0 b m hm
  have := hr.low
  rw [uZ b (by omega), hr.fix b hb]
  exact h9 b m hm
/-! ways through a body -/
structure St where
 l : List (Nat × PV)
 g : List (Nat × Option Bk)
 nx : Nat
abbrev qR := Exit → St → Prop
def AW (cx : Cx) (n : Nat) (c : Code) (Q : qR) (s : St) : Prop := ∀ a w, Mod cx n s.l s.g s.nx a w → c.wp Try.prog (fun e a' w' => ∃ s', Q e s' ∧ Mod cx n s'.l s'.g s'.nx a' w') a w
section
variable {cx : Cx} {n : Nat} {Q : qR} {s : St}
theorem AW.mono {c : Code} {Q' : qR} (h : AW cx n c Q s) (hq : ∀ e s', Q e s' → Q' e s') : AW cx n c Q' s := fun a w hm => wp_mono (h a w hm) fun e a' w' ⟨s', h1, h2⟩ => ⟨s', hq _ _ h1, h2⟩
theorem AW.ren {c : Code} (σ : Nat → Nat) (n0 : Nat) (s2 : St) (hn : cx.n0 = n0) (hs : RenS σ s2.nx s.l s2.l) (hr : RenG n0 σ s.g s2.g s2.nx) (h : AW cx n c Q s2) : AW cx n c Q s := fun a w hm => h a w (hm.ren hs (by rw [hn]; exact hr))
theorem AW.region {id : Nat} {ops : List Oper} {draw : Bool} {ts : List OT} {l lf : List (Nat × PV)} {g gf : List (Nat × Option Bk)} {nx nx' : Nat} (hs : Steps cx ops ops ts l g lf gf) (hd : gK ops n = true) (hc : bH ops ts nx nx' = true) (hQ : Q .normal ⟨lf, gf, nx'⟩) : AW cx n (.region id ops.toArray draw) Q ⟨l, g, nx⟩ :=
 fun a w hm => eB (by kernel_rfl) hd hs hc (fun a' w' h => ⟨_, hQ, h⟩) hm
def cK (K : St → Prop) (Q : qR) : qR
 | .normal, s => K s
 | e, s => Q e s
theorem AW.seq {x y : Code} (h : AW cx n x (cK (AW cx n y Q) Q) s) : AW cx n (.seq x y) Q s := fun a w hm => by
 refine wp_seq (wp_mono (h a w hm) ?_)
 rintro e a' w' ⟨s', h1, h2⟩
 cases e with
 | normal => exact h1 a' w' h2
 | _ => exact ⟨s', h1, h2⟩
theorem AW.cond {l : List (Nat × PV)} {g : List (Nat × Option Bk)} {nx : Nat} {c : Operand} {x y : Code} {b : Bool} (hc : Ev l c (LV (.bool b))) (h : AW cx n (if b then x else y) Q ⟨l, g, nx⟩) : AW cx n (.cond c x y) Q ⟨l, g, nx⟩ := fun a w hm => by
 refine wp_cond (t := b) ?_ (h a w hm)
 obtain ⟨ρ, h1, h2, h3, _⟩ := hm
 exact kG (hc.rep (xs := #[c]) ⟨fun t _ => h3 t, cx.glo h1⟩ (by simp))
theorem eS {l : List (Nat × PV)} {g : List (Nat × Option Bk)} {nx : Nat} {c : Operand} {x y : Code} (hc : Ev l c (LV (.bool true))) (h : AW cx n x Q ⟨l, g, nx⟩) : AW cx n (.cond c x y) Q ⟨l, g, nx⟩ := AW.cond hc h
theorem eT {l : List (Nat × PV)} {g : List (Nat × Option Bk)} {nx : Nat} {c : Operand} {x y : Code} (hc : Ev l c (LV (.bool false))) (h : AW cx n y Q ⟨l, g, nx⟩) : AW cx n (.cond c x y) Q ⟨l, g, nx⟩ := AW.cond hc h
theorem AW.skip (h : Q .normal s) : AW cx n .skip Q s := fun a w hm => wp_skip ⟨s, h, hm⟩
theorem AW.ret (h : Q .ret s) : AW cx n .ret Q s := fun a w hm => wp_ret ⟨s, h, hm⟩
theorem AW.exit {id : Nat} (h : Q (.exit id) s) : AW cx n (.exit id) Q s := fun a w hm => wp_exit ⟨s, h, hm⟩
def tJ (id : Nat) (Q : qR) : qR
 | .exit j, s => match kd4 j id with
  | true => Q .normal s
  | false => Q (.exit j) s
 | e, s => Q e s
theorem AW.block {id : Nat} {c : Code} (h : AW cx n c (tJ id Q) s) : AW cx n (.block id c) Q s := fun a w hm => by
 refine wp_block (wp_mono (h a w hm) ?_)
 rintro e a' w' ⟨s', h1, h2⟩
 cases e with
 | exit j =>
  unfold tJ at h1
  unfold Exit.inBlock
  by_cases hj : j = id
  ·subst hj
   have hb : kd4 j j = true := Nat.beq_refl j
   simp only [hb] at h1
   simp only [if_true]; exact ⟨s', h1, h2⟩
  ·have hb : kd4 j id = false := by
    cases hb : kd4 j id with
    | false => rfl
    | true => exact absurd (Nat.eq_of_beq_eq_true hb) hj
   simp only [hb] at h1
   simp only [hj, if_false]; exact ⟨s', h1, h2⟩
 | _ => exact ⟨s', h1, h2⟩
def tU (n0 : Nat) (s s2 : St) : Prop := ∃ σ, RenS σ s2.nx s.l s2.l ∧ RenG n0 σ s.g s2.g s2.nx
theorem AW.loop {α : Type} {c : Code} (n0 : Nat) (hn : cx.n0 = n0) (I : α → St) (μ : α → Nat) (x0 : α) (h0 : tU n0 s (I x0)) (round : ∀ x, AW cx n c (cK (fun s' => ∃ y, tU n0 s' (I y) ∧ μ y < μ x) Q) (I x)) : AW cx n (.loop c) Q s := fun a w hm => by
 subst hn
 obtain ⟨σ0, h01, h02⟩ := h0
 refine wp_loop_ghost (fun k a w => ∃ x, μ x = k ∧ Mod cx n (I x).l (I x).g (I x).nx a w) (μ x0) ⟨x0, rfl, hm.ren h01 h02⟩ ?_
 rintro k a w ⟨x, rfl, hx⟩
 refine wp_mono (round x a w hx) ?_
 rintro e a' w' ⟨s', h1, h2⟩
 cases e with
 | normal =>
  obtain ⟨y, ⟨σ, h3, h4⟩, hy⟩ := h1
  exact ⟨μ y, hy, y, rfl, h2.ren h3 h4⟩
 | _ => exact ⟨s', h1, h2⟩
end
end Go.Proofs.Ytkjmlililpgamaa
