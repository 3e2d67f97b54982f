/- Merged texts. -/
import Derived.Test.YtdbjebdomdnbkaaZAm7
import Derived.Deep.LoopGhost
import Derived.Scope
namespace Go.Proofs.Ytdbjebdomdnbkaa
open Go.ChangeShapes Go.WideShapes Go.ChangeAt Go.RowKit
set_option linter.unusedVariables false
set_option linter.unusedSimpArgs false
/-! other names -/
def aK (σ : Nat → Nat) : C → C
 | .own b off len s wh => .own (σ b) off len s wh
 | .ptr b off => .ptr (σ b) off
 | .fn f qs => .fn f (qs.map fun q => (σ q.1, q.2))
 | c => c
def rD (σ : Nat → Nat) : E1 → E1
 | .c x => .c (aK σ x)
 | .agg cs => .agg (cs.map (aK σ))
def gM (σ : Nat → Nat) : PV → PV
 | .e x => .e (rD σ x)
 | .tup l => .tup (l.map (rD σ))
 | .any => .any
def fL (σ : Nat → Nat) : Option Bk → Option Bk
 | some (T, cs) => some (T, cs.map (aK σ))
 | none => none
def eI (n : Nat) : C → Bool
 | .own b _ _ _ _ => Nat.blt b n
 | .ptr b _ => Nat.blt b n
 | .fn _ qs => qs.all fun q => Nat.blt q.1 n
 | _ => true
def k7x (n : Nat) : E1 → Bool
 | .c x => eI n x
 | .agg cs => cs.all (eI n)
def oB (n : Nat) : PV → Bool
 | .e x => k7x n x
 | .tup l => l.all (k7x n)
 | .any => true
theorem All2.mapL {α β γ : Type} {R : α → β → Prop} {R' : γ → β → Prop} (f : α → γ) (h : ∀ a b, R a b → R' (f a) b) : ∀ {xs : List α} {ys : List β}, All2 R xs ys → All2 R' (xs.map f) ys
 | [], [], _ => trivial
 | _ :: _, _ :: _, hh => ⟨h _ _ hh.1, All2.mapL f h hh.2⟩
theorem All2.unmapL {α β γ : Type} {R : α → β → Prop} {R' : γ → β → Prop} (f : α → γ) (q : α → Bool) (h : ∀ a b, q a = true → R' (f a) b → R a b) : ∀ {xs : List α} {ys : List β}, xs.all q = true → All2 R' (xs.map f) ys → All2 R xs ys
 | [], [], _, _ => trivial
 | _ :: _, _ :: _, hq, hh => by rw [List.all_cons, Bool.and_eq_true] at hq; exact ⟨h _ _ hq.1 hh.1, All2.unmapL f q h hq.2 hh.2⟩
theorem RepC.map {p p' : Nat → Prop} {ρ1 ρ2 : Rh} {w : World} {σ : Nat → Nat} (h : ∀ b m, ρ1 b = some m → ρ2 (σ b) = some m) (hz : ∀ k, pz p ρ1 k → pz p' ρ2 k) {c : C} {v : Value} (hc : RepC p ρ1 w c v) : RepC p' ρ2 w (aK σ c) v := by
 cases hc with
 | d h => exact .d (h.mono hz (Nat.le_refl _) (fun _ _ _ => rfl))
 | own b off len s wh m cap hm hn h1 h2 h3 => exact .own _ off len s wh m cap (h _ _ hm) hn h1 h2 h3
 | ownn b s m hm hn => exact .ownn _ s m (h _ _ hm) hn
 | own0 b off s a cap hm ha => exact .own0 _ off s a cap hm ha
 | ptr b off m hm hn => exact .ptr _ off m (h _ _ hm) hn
 | rp ds us b off hl hc hr hp hb => exact .rp ds us b off hl hc (fun i d u h1 h2 => (hr i d u h1 h2).mono hz (Nat.le_refl _) (fun _ _ _ => rfl)) (hz b hp) hb
 | fn f qs us hq => exact .fn f _ us (hq.mapL (fun q : Nat × Nat => (σ q.1, q.2)) fun q v ⟨m, h1, h2, h3⟩ => ⟨m, h _ _ h1, h2, h3⟩)
theorem RepC.unmap {p p' : Nat → Prop} {ρ1 ρ2 : Rh} {w : World} {σ : Nat → Nat} {n : Nat} (h : ∀ b, b < n → ρ1 b = ρ2 (σ b)) (hz : ∀ k, pz p ρ2 k → pz p' ρ1 k) {c : C} {v : Value} (hl : eI n c = true) (hc : RepC p ρ2 w (aK σ c) v) : RepC p' ρ1 w c v := by
 cases c with
 | d x => cases hc with | d h => exact .d (h.mono hz (Nat.le_refl _) (fun _ _ _ => rfl))
 | own b off len s wh =>
  have hb : b < n := Nat.le_of_ble_eq_true hl
  cases hc with
  | own _ off len s wh m cap hm hn h1 h2 h3 => exact .own _ off len s wh m cap (by rw [h b hb]; exact hm) hn h1 h2 h3
  | ownn _ s m hm hn => exact .ownn _ s m (by rw [h b hb]; exact hm) hn
  | own0 _ off s a cap hm ha => exact .own0 _ off s a cap hm ha
 | ptr b off =>
  have hb : b < n := Nat.le_of_ble_eq_true hl
  cases hc with
  | ptr _ off m hm hn => exact .ptr _ off m (by rw [h b hb]; exact hm) hn
 | rp ds => cases hc with | rp ds us b off hl hc hr hp hb => exact .rp ds us b off hl hc (fun i d u h1 h2 => (hr i d u h1 h2).mono hz (Nat.le_refl _) (fun _ _ _ => rfl)) (hz b hp) hb
 | fn f qs =>
  obtain ⟨us, rfl, hq⟩ : ∃ us : List Value, v = fnV f us ∧ All2 (k6t ρ2) (qs.map fun q => (σ q.1, q.2)) us := by cases hc with | fn _ _ us hq => exact ⟨us, rfl, hq⟩
  exact .fn f qs us (All2.unmapL (fun q : Nat × Nat => (σ q.1, q.2)) (fun q => Nat.blt q.1 n) (fun q v hb ⟨m, h1, h2, h3⟩ => ⟨m, by rw [h q.1 (Nat.le_of_ble_eq_true hb)]; exact h1, h2, h3⟩) hl hq)
theorem RepE.map {p p' : Nat → Prop} {ρ1 ρ2 : Rh} {w : World} {σ : Nat → Nat} (h : ∀ b m, ρ1 b = some m → ρ2 (σ b) = some m) (hz : ∀ k, pz p ρ1 k → pz p' ρ2 k) : ∀ {x : E1} {v : Value}, RepE p ρ1 w x v → RepE p' ρ2 w (rD σ x) v
 | .c _, _, hc => RepC.map h hz hc
 | .agg _, _, ⟨us, e, hc⟩ => ⟨us, e, hc.mapL (aK σ) fun _ _ => RepC.map h hz⟩
theorem RepPV.map {p p' : Nat → Prop} {ρ1 ρ2 : Rh} {w : World} {σ : Nat → Nat} (h : ∀ b m, ρ1 b = some m → ρ2 (σ b) = some m) (hz : ∀ k, pz p ρ1 k → pz p' ρ2 k) : ∀ {x : PV} {v : Value}, RepPV p ρ1 w x v → RepPV p' ρ2 w (gM σ x) v
 | .e _, _, hc => RepE.map h hz hc
 | .tup _, _, ⟨us, e, hc⟩ => ⟨us, e, hc.mapL (rD σ) fun _ _ => RepE.map h hz⟩
 | .any, _, _ => trivial
theorem mO {p p' : Nat → Prop} {ρ1 ρ2 : Rh} {w : World} {σ : Nat → Nat} {n : Nat} (h : ∀ b, b < n → ρ1 b = ρ2 (σ b)) (hz : ∀ k, pz p ρ2 k → pz p' ρ1 k) : ∀ {x : E1} {v : Value}, k7x n x = true → RepE p ρ2 w (rD σ x) v → RepE p' ρ1 w x v
 | .c _, _, hl, hc => RepC.unmap h hz hl hc
 | .agg _, _, hl, ⟨us, e, hc⟩ => ⟨us, e, hc.unmapL _ (eI n) (fun _ _ hq => RepC.unmap h hz hq) hl⟩
theorem jE {p p' : Nat → Prop} {ρ1 ρ2 : Rh} {w : World} {σ : Nat → Nat} {n : Nat} (h : ∀ b, b < n → ρ1 b = ρ2 (σ b)) (hz : ∀ k, pz p ρ2 k → pz p' ρ1 k) : ∀ {x : PV} {v : Value}, oB n x = true → RepPV p ρ2 w (gM σ x) v → RepPV p' ρ1 w x v
 | .e _, _, hl, hc => mO h hz hl hc
 | .tup _, _, hl, ⟨us, e, hc⟩ => ⟨us, e, hc.unmapL _ (k7x n) (fun _ _ hq => mO h hz hq) hl⟩
 | .any, _, _, _ => trivial
structure RenG (n0 : Nat) (σ : Nat → Nat) (g : List (Nat × Option Bk)) (g2 : List (Nat × Option Bk)) (nx2 : Nat) : Prop where
 blk : ∀ x ∈ g2, ∀ T cs, x.2 = some (T, cs) → cs.all (eI nx2) = true ∧ x.1 < nx2 ∧ Look g (σ x.1) (some (T, cs.map (aK σ)))
 inj : ∀ x ∈ g2, ∀ y ∈ g2, σ x.1 = σ y.1 → x.1 = y.1
 fix : ∀ b, b < n0 → σ b = b
 low : n0 ≤ nx2
theorem RenG.base {n0 : Nat} {σ : Nat → Nat} {g : List (Nat × Option Bk)} {nx2 : Nat} (hf : ∀ b, b < n0 → σ b = b) (hl : n0 ≤ nx2) : RenG n0 σ g [] nx2 := ⟨fun x hx => (by cases hx), fun x hx => (by cases hx), hf, hl⟩
theorem RenG.cons {n0 : Nat} {σ : Nat → Nat} {g g2 : List (Nat × Option Bk)} {nx2 b k : Nat} {T : TypeId} {cs cs0 : List C} (h : RenG n0 σ g g2 nx2) (hb : Nat.blt b nx2 = true) (hk : σ b = k) (hL : Look g k (some (T, cs0))) (hm : cs.map (aK σ) = cs0) (hl : cs.all (eI nx2) = true) (hi : (g2.all fun y => !(σ y.1 == k)) = true) : RenG n0 σ g ((b, some (T, cs)) :: g2) nx2 := by
 subst hm; subst hk
 rw [List.all_eq_true] at hi
 refine ⟨?_, ?_, h.fix, h.low⟩
 ·intro x hx T' cs' he
  rcases List.mem_cons.1 hx with rfl | hx
  ·simp only [Option.some.injEq, Prod.mk.injEq] at he
   obtain ⟨rfl, rfl⟩ := he
   exact ⟨hl, Nat.le_of_ble_eq_true hb, hL⟩
  ·exact h.blk x hx T' cs' he
 ·intro x hx y hy he
  rcases List.mem_cons.1 hx with rfl | hx
  ·rcases List.mem_cons.1 hy with rfl | hy
   ·rfl
   ·have := hi y hy; simp [he] at this
  ·rcases List.mem_cons.1 hy with rfl | hy
   ·have := hi x hx; simp [he] at this
   ·exact h.inj x hx y hy he
theorem yA {X : Type} {l : List (Nat × X)} {t : Nat} {u : X} (h : l.lookup t = some u) : (t, u) ∈ l := by
 induction l with
 | nil => simp at h
 | cons x l ih =>
  rw [List.lookup_cons] at h
  by_cases hx : t == x.1
  ·simp only [hx] at h; simp at hx h; subst hx; subst h; exact List.mem_cons_self ..
  ·simp only [hx] at h; exact List.mem_cons_of_mem _ (ih h)
def k7i (σ : Nat → Nat) (nx2 : Nat) (ρ : Rh) : Rh := ⟨fun b => if b < nx2 then ρ (σ b) else none, ρ.z⟩
theorem aS {σ : Nat → Nat} {nx2 : Nat} {ρ : Rh} (b : Nat) (h : b < nx2) : k7i σ nx2 ρ b = ρ (σ b) := by show (if b < nx2 then _ else _) = _; rw [if_pos h]
theorem HRep.ren {cx : Cx} {n0 nx2 : Nat} {g g2 : List (Nat × Option Bk)} {σ : Nat → Nat} (hr : RenG n0 σ g g2 nx2) {ρ : Rh} {w : World} (h2 : HRep cx ρ w (S g)) : HRep cx (k7i σ nx2 ρ) w (S g2) := by
 have hblk : ∀ b T cs, S g2 b = some (T, cs) → (b, some (T, cs)) ∈ g2 := by
  intro b T cs hb
  unfold Proofs.Ytdbjebdomdnbkaa.S at hb
  cases hl : g2.lookup b with
  | none => rw [hl] at hb; cases hb
  | some x => rw [hl] at hb; simp at hb; subst hb; exact yA hl
 refine ⟨?_, ?_, fun b m hb hm hnl => ?_, h2.zm, h2.zl⟩
 rotate_left 2
 ·obtain ⟨⟨T, cs⟩, e1⟩ := Option.ne_none_iff_exists'.1 hb
  obtain ⟨_, q2, q3⟩ := hr.blk _ (hblk b T cs e1) T cs rfl
  rw [aS b q2] at hm
  exact h2.zf _ m (by rw [q3.S]; simp) hm hnl
 ·intro b T cs hb
  obtain ⟨q1, q2, q3⟩ := hr.blk _ (hblk b T cs hb) T cs rfl
  obtain ⟨m, k1, k2⟩ := h2.row _ T _ q3.S
  refine ⟨m, by rw [aS b q2]; exact k1, ?_⟩
  rcases k2 with ⟨k2, k3⟩ | ⟨k2, ⟨vs, rest, r1, r2, r3⟩, k4⟩
  ·exact .inl ⟨k2, by simpa using k3⟩
  ·exact .inr ⟨k2, ⟨vs, rest, r1, r2, r3.unmapL _ (eI nx2) (fun _ _ hq => RepC.unmap aS (fun _ h => h) hq) q1⟩, k4⟩
 ·intro b b' m m' hb hb' hm hm' hnl hnl' he
  obtain ⟨⟨T, cs⟩, e1⟩ := Option.ne_none_iff_exists'.1 hb
  obtain ⟨⟨T', cs'⟩, e2⟩ := Option.ne_none_iff_exists'.1 hb'
  obtain ⟨q1, q2, q3⟩ := hr.blk _ (hblk b T cs e1) T cs rfl
  obtain ⟨q1', q2', q3'⟩ := hr.blk _ (hblk b' T' cs' e2) T' cs' rfl
  rw [aS b q2] at hm
  rw [aS b' q2'] at hm'
  exact hr.inj _ (hblk b T cs e1) _ (hblk b' T' cs' e2) (h2.inj _ _ m m' (by rw [q3.S]; simp) (by rw [q3'.S]; simp) hm hm' hnl hnl' he)
def RenS (σ : Nat → Nat) (nx2 : Nat) (l : List (Nat × PV)) : List (Nat × PV) → Prop
 | [] => True
 | (t, u) :: l2 => (oB nx2 u = true ∧ ∃ v, Look l t v ∧ gM σ u = v) ∧ RenS σ nx2 l l2
theorem RenS.get {σ : Nat → Nat} {nx2 : Nat} {l : List (Nat × PV)} : ∀ {l2 : List (Nat × PV)}, RenS σ nx2 l l2 → ∀ x ∈ l2, oB nx2 x.2 = true ∧ Look l x.1 (gM σ x.2)
 | (t, u) :: l2, h, x, hx => by
  rcases List.mem_cons.1 hx with rfl | hx
  ·obtain ⟨⟨h1, v, h2, h3⟩, _⟩ := h; subst h3; exact ⟨h1, h2⟩
  ·exact RenS.get h.2 x hx
theorem Mod.ren {cx : Cx} {n nx nx2 : Nat} {l l2 : List (Nat × PV)} {g g2 : List (Nat × Option Bk)} {σ : Nat → Nat} (hs : RenS σ nx2 l l2) (hr : RenG cx.n0 σ g g2 nx2) {a : Act} {w : World} (h : Mod cx n l g nx a w) : Mod cx n l2 g2 nx2 a w := by
 obtain ⟨ρ, h1, h2, h3, h4, h5, h6, h9⟩ := h
 refine ⟨k7i σ nx2 ρ, h1, h2.ren hr, ?_, h4, h5, fun b hb => by show (if b < nx2 then _ else _) = _; rw [if_neg (by omega)], ?_⟩
 ·intro t
  unfold Proofs.Ytdbjebdomdnbkaa.S
  cases hl : l2.lookup t with
  | none => exact trivial
  | some u =>
   obtain ⟨q1, q2⟩ := hs.get _ (yA hl)
   have := h3 t
   rw [q2.S] at this
   exact jE aS (fun _ h => h) q1 this
 ·intro b m hm
  have hb := cx.hn0 b m hm
  have := hr.low
  rw [aS b (by omega), hr.fix b hb]
  exact h9 b m hm
/-! ways through a body -/
structure St where
 l : List (Nat × PV)
 g : List (Nat × Option Bk)
 nx : Nat
abbrev yP := Exit → St → Prop
def AW (cx : Cx) (n : Nat) (c : Code) (Q : yP) (s : St) : Prop := ∀ a w, Mod cx n s.l s.g s.nx a w → c.wp Try.prog (fun e a' w' => ∃ s', Q e s' ∧ Mod cx n s'.l s'.g s'.nx a' w') a w
section
variable {cx : Cx} {n : Nat} {Q : yP} {s : St}
theorem AW.mono {c : Code} {Q' : yP} (h : AW cx n c Q s) (hq : ∀ e s', Q e s' → Q' e s') : AW cx n c Q' s := fun a w hm => wp_mono (h a w hm) fun e a' w' ⟨s', h1, h2⟩ => ⟨s', hq _ _ h1, h2⟩
theorem AW.ren {c : Code} (σ : Nat → Nat) (n0 : Nat) (s2 : St) (hn : cx.n0 = n0) (hs : RenS σ s2.nx s.l s2.l) (hr : RenG n0 σ s.g s2.g s2.nx) (h : AW cx n c Q s2) : AW cx n c Q s := fun a w hm => h a w (hm.ren hs (by rw [hn]; exact hr))
theorem AW.region {id : Nat} {ops : List Oper} {draw : Bool} {ts : List OT} {l lf : List (Nat × PV)} {g gf : List (Nat × Option Bk)} {nx nx' : Nat} (hs : Steps cx ops ops ts l g lf gf) (hd : sA ops n = true) (hc : iN ops ts nx nx' = true) (hQ : Q .normal ⟨lf, gf, nx'⟩) : AW cx n (.region id ops.toArray draw) Q ⟨l, g, nx⟩ :=
 fun a w hm => nS (by kernel_rfl) hd hs hc (fun a' w' h => ⟨_, hQ, h⟩) hm
def i6 (K : St → Prop) (Q : yP) : yP
 | .normal, s => K s
 | e, s => Q e s
theorem AW.seq {x y : Code} (h : AW cx n x (i6 (AW cx n y Q) Q) s) : AW cx n (.seq x y) Q s := fun a w hm => by
 refine wp_seq (wp_mono (h a w hm) ?_)
 rintro e a' w' ⟨s', h1, h2⟩
 cases e with
 | normal => exact h1 a' w' h2
 | _ => exact ⟨s', h1, h2⟩
theorem AW.cond {l : List (Nat × PV)} {g : List (Nat × Option Bk)} {nx : Nat} {c : Operand} {x y : Code} {b : Bool} (hc : Ev l c (LV (.bool b))) (h : AW cx n (if b then x else y) Q ⟨l, g, nx⟩) : AW cx n (.cond c x y) Q ⟨l, g, nx⟩ := fun a w hm => by
 refine wp_cond (t := b) ?_ (h a w hm)
 obtain ⟨ρ, h1, h2, h3, _⟩ := hm
 exact qC (hc.rep (xs := #[c]) ⟨fun t _ => h3 t, cx.glo h1⟩ (by simp))
theorem oP {l : List (Nat × PV)} {g : List (Nat × Option Bk)} {nx : Nat} {c : Operand} {x y : Code} (hc : Ev l c (LV (.bool true))) (h : AW cx n x Q ⟨l, g, nx⟩) : AW cx n (.cond c x y) Q ⟨l, g, nx⟩ := AW.cond hc h
theorem oQ {l : List (Nat × PV)} {g : List (Nat × Option Bk)} {nx : Nat} {c : Operand} {x y : Code} (hc : Ev l c (LV (.bool false))) (h : AW cx n y Q ⟨l, g, nx⟩) : AW cx n (.cond c x y) Q ⟨l, g, nx⟩ := AW.cond hc h
theorem AW.skip (h : Q .normal s) : AW cx n .skip Q s := fun a w hm => wp_skip ⟨s, h, hm⟩
theorem AW.ret (h : Q .ret s) : AW cx n .ret Q s := fun a w hm => wp_ret ⟨s, h, hm⟩
theorem AW.exit {id : Nat} (h : Q (.exit id) s) : AW cx n (.exit id) Q s := fun a w hm => wp_exit ⟨s, h, hm⟩
def k6d (id : Nat) (Q : yP) : yP
 | .exit j, s => match Nat.beq j id with
  | true => Q .normal s
  | false => Q (.exit j) s
 | e, s => Q e s
theorem AW.block {id : Nat} {c : Code} (h : AW cx n c (k6d id Q) s) : AW cx n (.block id c) Q s := fun a w hm => by
 refine wp_block (wp_mono (h a w hm) ?_)
 rintro e a' w' ⟨s', h1, h2⟩
 cases e with
 | exit j =>
  unfold k6d at h1
  unfold Exit.inBlock
  by_cases hj : j = id
  ·subst hj
   have hb : Nat.beq j j = true := Nat.beq_refl j
   simp only [hb] at h1
   simp only [if_true]; exact ⟨s', h1, h2⟩
  ·have hb : Nat.beq j id = false := by
    cases hb : Nat.beq j id with
    | false => rfl
    | true => exact absurd (Nat.eq_of_beq_eq_true hb) hj
   simp only [hb] at h1
   simp only [hj, if_false]; exact ⟨s', h1, h2⟩
 | _ => exact ⟨s', h1, h2⟩
def k6s (n0 : Nat) (s s2 : St) : Prop := ∃ σ, RenS σ s2.nx s.l s2.l ∧ RenG n0 σ s.g s2.g s2.nx
theorem AW.loop {α : Type} {c : Code} (n0 : Nat) (hn : cx.n0 = n0) (I : α → St) (μ : α → Nat) (x0 : α) (h0 : k6s n0 s (I x0)) (round : ∀ x, AW cx n c (i6 (fun s' => ∃ y, k6s n0 s' (I y) ∧ μ y < μ x) Q) (I x)) : AW cx n (.loop c) Q s := fun a w hm => by
 subst hn
 obtain ⟨σ0, h01, h02⟩ := h0
 refine wp_loop_ghost (fun k a w => ∃ x, μ x = k ∧ Mod cx n (I x).l (I x).g (I x).nx a w) (μ x0) ⟨x0, rfl, hm.ren h01 h02⟩ ?_
 rintro k a w ⟨x, rfl, hx⟩
 refine wp_mono (round x a w hx) ?_
 rintro e a' w' ⟨s', h1, h2⟩
 cases e with
 | normal =>
  obtain ⟨y, ⟨σ, h3, h4⟩, hy⟩ := h1
  exact ⟨μ y, hy, y, rfl, h2.ren h3 h4⟩
 | _ => exact ⟨s', h1, h2⟩
end
end Go.Proofs.Ytdbjebdomdnbkaa
namespace Go.Proofs.Ytdbjebdomdnbkaa
open Go.ChangeShapes Go.WideShapes Go.ChangeAt Go.RowKit
set_option linter.unusedVariables false
set_option linter.unusedSimpArgs false
/-! results -/
inductive ResE (l : List (Nat × PV)) (g : List (Nat × Option Bk)) : ResultVar → E1 → Prop where
 | tmp {t : Nat} {e : E1} (h : Look l t (.e e)) : ResE l g (.tmp t) e
 | cell {a b off : Nat} {ty T : TypeId} {cs : List C} {c : C} (h : Look l a (.e (.c (.ptr b off)))) (ht : yL Try.prog ty = some (false, 1)) (hb : Look g b (some (T, cs))) (hc : cs[off]? = some c) : ResE l g (.cell a ty) (.c c)
 | agg {a b off n : Nat} {ty T : TypeId} {cs cs' : List C} (h : Look l a (.e (.c (.ptr b off)))) (ht : yL Try.prog ty = some (true, n)) (hb : Look g b (some (T, cs))) (hc : (cs.drop off).take n = cs') (hl : cs'.length = n) : ResE l g (.cell a ty) (.agg cs')
def lT (tmps : Array Value) : ResultVar → Sem Value
 | .tmp t => pure (tmps.getD t undef)
 | .cell a t => do loadVar t (← asAddr (tmps.getD a undef))
theorem ResE.run {cx : Cx} {ρ : Rh} {w : World} {l : List (Nat × PV)} {g : List (Nat × Option Bk)} {tmps : Array Value} (hh : HRep cx ρ w (S g)) (hs : ∀ t, RepPV cx.p ρ w (S l t) (tmps.getD t undef)) {r : ResultVar} {e : E1} (h : ResE l g r e) : ∃ v, (lT tmps r).run Try.prog w = .ok v w ∧ RepE cx.p ρ w e v := by
 cases h with
 | @tmp t _ h => have := hs t; rw [h.S] at this; exact ⟨_, rfl, this⟩
 | @cell a b off ty T cs c h ht hb hc =>
  have h1 := hs a
  rw [h.S] at h1
  obtain ⟨m, hm, hn, e⟩ := bT h1
  obtain ⟨v, h2, h3⟩ := (hh.at hb.S hm hn).1.cell hc
  exact ⟨v, by simp [lT, e, asAddr, loadVar, cK ht, h2], h3⟩
 | @agg a b off n ty T cs cs' h ht hb hc hl =>
  have h1 := hs a
  rw [h.S] at h1
  obtain ⟨m, hm, hn, e⟩ := bT h1
  obtain ⟨vs, rest, q1, q2, q3⟩ := (hh.at hb.S hm hn).1
  have h4 := (q3.drop off).take n
  rw [hc] at h4
  have h5 : ((vs.drop off).take n).length = n := by rw [← h4.len]; exact hl
  obtain ⟨d, i, hd, hi, hrow, hsz⟩ := iJ ht
  have hr := run_loadVar_mid (P := Try.prog) w m.g off ty ((vs.drop off).take n) d (fun j v hj => BlkM.cell (vs := vs ++ rest) q1 (off + j) (by
   rw [List.getElem?_take] at hj
   split at hj
   ·rw [List.getElem?_drop] at hj
    rw [List.getElem?_append_left (List.getElem?_eq_some_iff.1 hj).1]; exact hj
   ·cases hj)) hd hrow (by rw [hi, h5, ← hsz]; rfl)
  exact ⟨_, by simp [lT, e, asAddr, hr], _, rfl, h4⟩
inductive ResL (l : List (Nat × PV)) (g : List (Nat × Option Bk)) : List ResultVar → List E1 → Prop where
 | nil : ResL l g [] []
 | cons {r : ResultVar} {e : E1} {rs : List ResultVar} {es : List E1} (h : ResE l g r e) (hs : ResL l g rs es) : ResL l g (r :: rs) (e :: es)
def u1q : List E1 → PV
 | [e] => .e e
 | es => .tup es
theorem ResL.run {cx : Cx} {ρ : Rh} {w : World} {l : List (Nat × PV)} {g : List (Nat × Option Bk)} {tmps : Array Value} (hh : HRep cx ρ w (S g)) (hs : ∀ t, RepPV cx.p ρ w (S l t) (tmps.getD t undef)) {rs : List ResultVar} {es : List E1} (h : ResL l g rs es) : ∃ vs : List Value, (rs.mapM (lT tmps)).run Try.prog w = .ok vs w ∧ All2 (RepE cx.p ρ w) es vs := by
 induction h with
 | nil => exact ⟨[], rfl, trivial⟩
 | cons h hs' ih =>
  obtain ⟨v, h1, h2⟩ := h.run hh hs
  obtain ⟨vs, h3, h4⟩ := ih
  exact ⟨v :: vs, by simp [List.mapM_cons, h1, h3], h2, h4⟩
theorem s9 {cx : Cx} {ρ : Rh} {w : World} {l : List (Nat × PV)} {g : List (Nat × Option Bk)} {tmps : Array Value} (hh : HRep cx ρ w (S g)) (hs : ∀ t, RepPV cx.p ρ w (S l t) (tmps.getD t undef)) {fn : Func} {es : List E1} (h : ResL l g fn.results.toList es) : ∃ v, (results fn tmps).run Try.prog w = .ok v w ∧ RepPV cx.p ρ w (u1q es) v := by
 obtain ⟨vs, h1, h2⟩ := h.run hh hs
 have e : (fn.results.mapM (lT tmps)).run Try.prog w = .ok vs.toArray w := by
  have e0 : fn.results = fn.results.toList.toArray := by simp
  rw [e0, List.mapM_toArray]
  simp [h1]
 have e2 : results fn tmps = (do let vs ← fn.results.mapM (lT tmps); pure (if h : vs.size = 1 then vs[0] else .tuple vs)) := by
  unfold results lT
  rfl
 rw [e2, Sem.run_bind, e]
 simp only [Result.andThen_ok, Sem.run_pure]
 match es, vs, h2 with
 | [], [], _ => exact ⟨_, rfl, [], by simp, trivial⟩
 | [e], [v], h2 => exact ⟨_, rfl, h2.1⟩
 | e1 :: e2 :: es, v1 :: v2 :: vs, h2 => exact ⟨_, rfl, _, by simp, h2⟩
/-! functions -/
def Fun (f : FuncId) (xs : List E1) (g0 : List (Nat × Option Bk)) (nx0 : Nat) (y : PV) (g1 : List (Nat × Option Bk)) (nx1 : Nat) : Prop :=
 ∀ (cx : Cx) (args : List Value), cx.n0 = nx0 → HRep cx cx.ρ0 cx.W (S g0) → All2 (RepE cx.p cx.ρ0 cx.W) xs args →
  Calls Try.prog f args.toArray cx.W fun e w' => ∃ v ρ', e = .returned v ∧ (∀ b m, cx.ρ0 b = some m → ρ' b = some m) ∧ (∀ b, nx1 ≤ b → ρ' b = none) ∧ HRep cx ρ' w' (S g1) ∧ Kept cx.W cx.may w' ∧ RepPV cx.p ρ' w' y v
def bO : Nat → List E1 → List (Nat × PV)
 | _, [] => []
 | k, x :: xs => (k, .e x) :: bO (k + 1) xs
theorem gX : ∀ (xs : List E1) (k t : Nat) {p : Nat → Prop} {ρ : Rh} {w : World} {args : List Value}, All2 (RepE p ρ w) xs args → ∀ rest : List Value, RepPV p ρ w (S (bO k xs) (k + t)) ((args ++ rest).getD t undef)
 | [], k, t, p, ρ, w, args, h, rest => trivial
 | x :: xs, k, t, p, ρ, w, a :: args, h, rest => by
  cases t with
  | zero => simp [bO, Proofs.Ytdbjebdomdnbkaa.S]; exact h.1
  | succ t =>
   have := gX xs (k + 1) t h.2 rest
   rw [show k + 1 + t = k + (t + 1) by omega] at this
   have e : S (bO k (x :: xs)) (k + (t + 1)) = S (bO (k + 1) xs) (k + (t + 1)) := by
    show S ((k, .e x) :: bO (k + 1) xs) _ = _
    unfold Proofs.Ytdbjebdomdnbkaa.S
    rw [List.lookup_cons, show (k + (t + 1) == k) = false by simp]
   rw [e]
   simpa using this
def EndP (n0 : Nat) (rs : List ResultVar) (y : PV) (g1 : List (Nat × Option Bk)) (nx1 : Nat) : yP := fun e s => (e = .normal ∨ e = .ret) ∧ ∃ es σ, ResL s.l s.g rs es ∧ gM σ y = u1q es ∧ oB nx1 y = true ∧ RenG n0 σ s.g g1 nx1
def R3 (cx : Cx) (ρ' : Rh) (w' : World) (y : PV) (g1 : List (Nat × Option Bk)) (nx1 : Nat) (v : Value) : Prop := (∀ b m, cx.ρ0 b = some m → ρ' b = some m) ∧ (∀ b, nx1 ≤ b → ρ' b = none) ∧ HRep cx ρ' w' (S g1) ∧ Kept cx.W cx.may w' ∧ RepPV cx.p ρ' w' y v
theorem Fun.mk {f n nx0 nx1 : Nat} {fn : Func} {c : Code} {xs : List E1} {g0 g1 : List (Nat × Option Bk)} {y : PV} (hf : Try.prog.funcs[f]? = some fn) (hb : fn.body = some c) (hn : fn.ntmps = n) (hxn : xs.length ≤ n)
  (h : ∀ cx : Cx, cx.n0 = nx0 → AW cx n c (EndP nx0 fn.results.toList y g1 nx1) ⟨bO 0 xs, g0, nx0⟩) : Fun f xs g0 nx0 y g1 nx1 := by
 intro cx args hnx hh ha
 refine calls_of_wp hf hb ?_
 have hal : args.length = xs.length := ha.len.symm
 have hk0 : Kept cx.W cx.may cx.W := ⟨rfl, rfl, rfl, Nat.le_refl _, fun _ _ _ => rfl⟩
 refine wp_mono (h cx hnx _ cx.W ⟨cx.ρ0, hk0, hh, ?_, ?_, rfl, ?_, fun _ _ h => h⟩) ?_
 ·intro t
  have := gX xs 0 t ha (List.replicate (fn.ntmps - args.length) undef)
  rw [Nat.zero_add] at this
  have e : (args.toArray ++ Array.replicate (fn.ntmps - args.toArray.size) undef).getD t undef = (args ++ List.replicate (fn.ntmps - args.length) undef).getD t undef := by
   have : args.toArray ++ Array.replicate (fn.ntmps - args.toArray.size) undef = (args ++ List.replicate (fn.ntmps - args.length) undef).toArray := by
    apply Array.ext'; simp
   rw [this]
   simp [Array.getD_eq_getD_getElem?, List.getD_eq_getElem?_getD]
  rw [e]; exact this
 ·simp [hn]; omega
 ·intro b hb
  cases hρ : cx.ρ0 b with
  | none => rfl
  | some m => have h1 := cx.hn0 b m hρ; have hb' : nx0 ≤ b := hb; omega
 ·rintro e a' w' ⟨s', ⟨he, es, σ, h4, h5, h6, h7⟩, ⟨ρ', k1, k2, k3, k4, k5, k6, k7⟩⟩
  obtain ⟨v, r1, r2⟩ := s9 k2 k3 h4
  rw [← h5] at r2
  have hfin : R3 cx (k7i σ nx1 ρ') w' y g1 nx1 v := ⟨fun b m hb => by
    have h8 := cx.hn0 b m hb
    have h9 := h7.low
    rw [aS b (by omega), h7.fix b (by omega)]; exact k7 b m hb, fun b hb => by show (if b < nx1 then _ else _) = _; rw [if_neg (by omega)], k2.ren h7, k1, jE aS (fun _ h => h) h6 r2⟩
  rcases he with rfl | rfl <;> exact ⟨k5, v, r1, v, _, rfl, hfin.1, hfin.2.1, hfin.2.2.1, hfin.2.2.2.1, hfin.2.2.2.2⟩
/-! calls -/
def nm (ps : List Nat) (nx b : Nat) : Nat := if b < ps.length then ps.getD b 0 else nx + (b - ps.length)
inductive EvA (l : List (Nat × PV)) : List Operand → List E1 → Prop where
 | nil : EvA l [] []
 | cons {x : Operand} {e : E1} {xs : List Operand} {es : List E1} (h : Ev l x (.e e)) (hs : EvA l xs es) : EvA l (x :: xs) (e :: es)
theorem EvA.rep {l : List (Nat × PV)} {xs : List Operand} {es : List E1} (h : EvA l xs es) {p : Nat → Prop} {ρ : Rh} {w : World} {ops : Array Operand} {a : Act} (hs : aL p ρ w l ops a) (hm : ∀ x ∈ xs, x ∈ ops.toList) : All2 (RepE p ρ w) es (xs.map a.eval) := by
 induction h with
 | nil => trivial
 | cons h hs' ih => exact ⟨h.rep hs (hm _ (List.mem_cons_self ..)), ih (fun x hx => hm x (List.mem_cons_of_mem _ hx))⟩
inductive PassC (g : List (Nat × Option Bk)) (ps : List Nat) (nx : Nat) (snap : Bool) (foot : List Nat) : C → C → Prop where
 | same {c c' : C} (hl : eI ps.length c' = true) (hm : aK (nm ps nx) c' = c) : PassC g ps nx snap foot c c'
 | own {b off len s : Nat} {wh : Bool} {T : TypeId} {cs : List C} {ds : List D} (hs : snap = true) (hb : Look g b (some (T, cs))) (hp : ps.contains b = false) (hf : foot.contains b = true) (hd : (cs.drop off).take (len * s) = ds.map .d) (hl : ds.length = len * s) : PassC g ps nx snap foot (.own b off len s wh) (.d (.sl ds len))
 | nil : PassC g ps nx snap foot (.d (.lit aT)) (.d (.sl [] 0))
inductive PassE (g : List (Nat × Option Bk)) (ps : List Nat) (nx : Nat) (snap : Bool) (foot : List Nat) : E1 → E1 → Prop where
 | c {x y : C} (h : PassC g ps nx snap foot x y) : PassE g ps nx snap foot (.c x) (.c y)
 | agg {xs ys : List C} (h : All2 (PassC g ps nx snap foot) xs ys) : PassE g ps nx snap foot (.agg xs) (.agg ys)
def gH : C → Bool
 | .d (.lit _) => true
 | .d (.sl _ _) => false
 | .own .. => true
 | .ptr .. => true
 | .rp _ => false
 | .fn .. => true
def k0b : E1 → Bool
 | .c x => gH x
 | .agg cs => cs.all gH
def l4 : PV → Bool
 | .e x => k0b x
 | .tup l => l.all k0b
 | .any => true
def n7 (g : List (Nat × Option Bk)) : Bool := g.all fun x => match x.2 with
 | some (_, cs) => cs.all gH
 | none => true
theorem RepC.weak {p p' : Nat → Prop} {ρ : Rh} {w : World} (h : ∀ k, p k → p' k) {c : C} {v : Value} (hc : RepC p ρ w c v) : RepC p' ρ w c v := by
 cases hc with
 | d hd => exact .d (hd.mono (fun k hk => hk.imp (h k) id) (Nat.le_refl _) (fun _ _ _ => rfl))
 | own b off len s wh m cap hm hn h1 h2 h3 => exact .own _ off len s wh m cap hm hn h1 h2 h3
 | ownn b s m hm hn => exact .ownn _ s m hm hn
 | own0 b off s a cap hm ha => exact .own0 _ off s a cap hm ha
 | ptr b off m hm hn => exact .ptr _ off m hm hn
 | rp ds us b off hl hcc hr hp hb => exact .rp ds us b off hl hcc (fun i d u h1 h2 => (hr i d u h1 h2).mono (fun k hk => hk.imp (h k) id) (Nat.le_refl _) (fun _ _ _ => rfl)) (hp.imp (h b) id) hb
 | fn f qs us hq => exact .fn f qs us hq
theorem RepC.nosl {p p' : Nat → Prop} {ρ : Rh} {w : World} {c : C} {v : Value} (hsl : gH c = true) (hc : RepC p ρ w c v) : RepC p' ρ w c v := by
 cases hc with
 | d hd => cases hd with
  | lit v h => exact .d (.lit v h)
  | nil => cases hsl
  | sl => cases hsl
 | own b off len s wh m cap hm hnl h1 h2 h3 => exact .own _ off len s wh m cap hm hnl h1 h2 h3
 | ownn b s m hm hn => exact .ownn _ s m hm hn
 | own0 b off s a cap hm ha => exact .own0 _ off s a cap hm ha
 | ptr b off m hm hn => exact .ptr _ off m hm hn
 | fn f qs us hq => exact .fn f qs us hq
 | rp => cases hsl
theorem All2.impAll {α β : Type} {R R' : α → β → Prop} (q : α → Bool) (h : ∀ a b, q a = true → R a b → R' a b) : ∀ {xs : List α} {ys : List β}, xs.all q = true → All2 R xs ys → All2 R' xs ys
 | [], [], _, _ => trivial
 | _ :: _, _ :: _, hq, hh => by rw [List.all_cons, Bool.and_eq_true] at hq; exact ⟨h _ _ hq.1 hh.1, All2.impAll q h hq.2 hh.2⟩
theorem RepE.nosl {p p' : Nat → Prop} {ρ : Rh} {w : World} : ∀ {x : E1} {v : Value}, k0b x = true → RepE p ρ w x v → RepE p' ρ w x v
 | .c _, _, hn, h => RepC.nosl hn h
 | .agg _, _, hn, ⟨us, e, h⟩ => ⟨us, e, h.impAll gH (fun _ _ hq => RepC.nosl hq) hn⟩
theorem RepPV.nosl {p p' : Nat → Prop} {ρ : Rh} {w : World} : ∀ {x : PV} {v : Value}, l4 x = true → RepPV p ρ w x v → RepPV p' ρ w x v
 | .e _, _, hn, h => RepE.nosl hn h
 | .tup _, _, hn, ⟨us, e, h⟩ => ⟨us, e, h.impAll k0b (fun _ _ hq => RepE.nosl hq) hn⟩
 | .any, _, _, _ => trivial
theorem RepE.weak {p p' : Nat → Prop} {ρ : Rh} {w : World} (hp : ∀ k, p k → p' k) : ∀ {x : E1} {v : Value}, RepE p ρ w x v → RepE p' ρ w x v
 | .c _, _, h => RepC.weak hp h
 | .agg _, _, ⟨us, e, h⟩ => ⟨us, e, h.imp fun _ _ => RepC.weak hp⟩
theorem RepPV.weak {p p' : Nat → Prop} {ρ : Rh} {w : World} (hp : ∀ k, p k → p' k) : ∀ {x : PV} {v : Value}, RepPV p ρ w x v → RepPV p' ρ w x v
 | .e _, _, h => RepE.weak hp h
 | .tup _, _, ⟨us, e, h⟩ => ⟨us, e, h.imp fun _ _ => RepE.weak hp⟩
 | .any, _, _ => trivial
end Go.Proofs.Ytdbjebdomdnbkaa
namespace Go.Proofs.Ytdbjebdomdnbkaa
open Go.ChangeShapes Go.WideShapes Go.ChangeAt Go.RowKit
set_option linter.unusedVariables false
set_option linter.unusedSimpArgs false
def gV (l : List Nat) : Bool := match l with
  | [] => true
  | a :: l => !l.contains a && gV l
theorem dE : ∀ {l : List Nat}, gV l = true → ∀ i j, i < l.length → j < l.length → l.getD i 0 = l.getD j 0 → i = j
  | [], _, i, _, h, _, _ => by simp at h
  | a :: l, hd, i, j, hi, hj, he => by
    unfold gV at hd
    rw [Bool.and_eq_true] at hd
    have hmem : ∀ k, k < l.length → l.getD k 0 ∈ l := by intro k hk; rw [List.getD_eq_getElem?_getD, List.getElem?_eq_getElem hk]; exact List.getElem_mem _
    have hna : a ∉ l := by simpa using hd.1
    cases i with
    | zero =>
      cases j with
      | zero => rfl
      | succ j => exfalso; simp at he hj; exact hna (by rw [he]; simpa [List.getD_eq_getElem?_getD] using hmem j hj)
    | succ i =>
      cases j with
      | zero => exfalso; simp at he hi; exact hna (by rw [← he]; simpa [List.getD_eq_getElem?_getD] using hmem i hi)
      | succ j => simp at hi hj; rw [dE hd.2 i j hi hj (by simpa using he)]
theorem aQ {ps : List Nat} {nx b : Nat} (h : b < ps.length) : nm ps nx b = ps.getD b 0 := by unfold nm; rw [if_pos h]
theorem k0d {ps : List Nat} {nx b : Nat} (h : ps.length ≤ b) : nm ps nx b = nx + (b - ps.length) := by unfold nm; rw [if_neg (by omega)]
theorem gP {l : List Nat} {k : Nat} (hk : k < l.length) : l.getD k 0 ∈ l := by rw [List.getD_eq_getElem?_getD, List.getElem?_eq_getElem hk]; exact List.getElem_mem _
theorem fN {σ : Nat → Nat} {b : Nat} : ∀ (g : List (Nat × Option Bk)), (∀ y ∈ g, σ y.1 = σ b → y.1 = b) → (g.map fun x => (σ x.1, fL σ x.2)).lookup (σ b) = (g.lookup b).map (fL σ)
  | [], _ => rfl
  | (k, x) :: g, h => by
    rw [List.map_cons, List.lookup_cons, List.lookup_cons]
    by_cases hk : k = b
    · subst hk; simp
    · have h1 : (σ b == σ k) = false := by
        have : ¬ σ b = σ k := fun e => hk (h (k, x) (List.mem_cons_self ..) e.symm)
        simpa using this
      have h2 : (b == k) = false := by simpa using Ne.symm hk
      simp only [h1, h2]
      exact fN g (fun y hy => h y (List.mem_cons_of_mem _ hy))
theorem k83 {l : List (Nat × Option Bk)} {b : Nat} (h : b ∈ l.map (·.1)) : ∃ x, l.lookup b = some x := by
  induction l with
  | nil => simp at h
  | cons y l ih =>
    rw [List.lookup_cons]
    by_cases hx : b == y.1
    · exact ⟨y.2, by simp [hx]⟩
    · simp only [hx]
      refine ih ?_
      rw [List.map_cons] at h
      rcases List.mem_cons.1 h with h | h
      · simp [h] at hx
      · exact h
def k05 (ps : List Nat) (gout : List (Nat × Option Bk)) (nout : Nat) : Bool := (gout.all fun x => Nat.blt x.1 nout) && ((List.range ps.length).all (fun b => (gout.map (·.1)).contains b) && (Nat.ble ps.length nout && gV ps))
section
variable {cx : Cx} {o : Oper} {l : List (Nat × PV)} {g : List (Nat × Option Bk)}
theorem u5d {ps foot : List Nat} {nx : Nat} {snap : Bool} {ρ ρc : Rh} {w : World} {hL : Hp} {p' : Nat → Prop} (hh : HRep cx ρ w hL) (hf : ∀ b ∈ foot, hL b = S g b) (hρ : ∀ b, b < ps.length → ρc b = ρ (nm ps nx b)) (hp : ∀ k, pz cx.p ρ k → p' k) (hp2 : snap = true → ∀ b m, hL b ≠ none → b ∉ ps → ρ b = some m → m.nl = false → p' m.g)
    {c c' : C} (h : PassC g ps nx snap foot c c') {v : Value} (hc : RepC cx.p ρ w c v) : RepC p' ρc w c' v := by
  cases h with
  | same hl hm => subst hm; exact RepC.unmap hρ (fun k h => .inl (hp k h)) hl hc
  | @own b off len s wh T cs ds hs hb hnp hfb hd hl =>
    have hb' : hL b = some (T, cs) := by rw [hf b (by simpa using hfb), hb.S]
    have hbp : b ∉ ps := by simpa using hnp
    by_cases h0 : len = 0
    · subst h0
      have : ds = [] := List.eq_nil_of_length_eq_zero (by rw [hl]; simp)
      subst this
      obtain ⟨a, cap, rfl, h1, h2, h3⟩ := bU (v := v) (show RepPV cx.p ρ w (.e (.c (.own b off 0 s wh))) v from hc)
      exact .d (.nil a cap h2 h3)
    · obtain ⟨m, cap, hm, hnl, rfl, h1, h2, h3⟩ := bW (by omega) (v := v) (show RepPV cx.p ρ w (.e (.c (.own b off len s wh))) v from hc)
      obtain ⟨⟨vs, rest, r1, r2, r3⟩, r4⟩ := hh.at hb' hm hnl
      have h4 := (r3.drop off).take (len * s)
      rw [hd] at h4
      have hlen : ((vs.drop off).take (len * s)).length = ds.length := by rw [← h4.len]; simp
      refine .d (.sl ds ((vs.drop off).take (len * s)) m.g off len cap hlen ?_ ?_ (.inl (hp2 hs b m (by rw [hb']; simp) hbp hm hnl)) r1.lt h1 h2)
      · intro i u hu
        rw [List.getElem?_take] at hu
        split at hu
        · rw [List.getElem?_drop] at hu
          exact BlkM.cell (vs := vs ++ rest) r1 (off + i) (by rw [List.getElem?_append_left (List.getElem?_eq_some_iff.1 hu).1]; exact hu)
        · cases hu
      · intro i d u hd' hu
        have := h4.get i (.d d) u (by rw [List.getElem?_map, hd']; rfl) hu
        cases this with
        | d h => exact h.mono (fun k hk => .inl (hp k hk)) (Nat.le_refl _) (fun _ _ _ => rfl)
  | nil => cases hc with | d h => cases h; exact .d (.nil none 0 (by simp [maxLen]) (fun _ => rfl))
theorem uU {α β γ : Type} {R : α → β → Prop} {T : α → γ → Prop} {U : β → γ → Prop} (h : ∀ a b c, R a b → T a c → U b c) : ∀ {xs : List α} {ys : List β} {zs : List γ}, All2 R xs ys → All2 T xs zs → All2 U ys zs
  | [], [], [], _, _ => trivial
  | _ :: _, _ :: _, _ :: _, h1, h2 => ⟨h _ _ _ h1.1 h2.1, uU h h1.2 h2.2⟩
theorem All2.ptrs {p : Nat → Prop} {ρ : Rh} {w : World} : ∀ {qs : List (Nat × Nat)} {vs : List Value}, All2 (k6t ρ) qs vs → All2 (RepE p ρ w) (qs.map fun q => .c (.ptr q.1 q.2)) vs
  | [], [], _ => trivial
  | _ :: _, _ :: _, ⟨⟨m, h1, h2, h3⟩, ht⟩ => ⟨by subst h3; exact RepC.ptr _ _ m h1 h2, All2.ptrs ht⟩
theorem k1b {f : FuncId} {args : Array Operand} {ts : Array TypeId} {us : List E1} {ρ : Rh} {a : Act} {w : World} (ho : o.op = .call { callee := .value (.func f), args := args, argTypes := ts }) (hent : ∀ (ar : Array Value) (w : World), (callFunc f ar).run Try.prog w = .ok (.enter f ar) w) (hargs : EvA l args.toList us) (hs : aL cx.p ρ w l o.op.operands a) :
    ∃ av : List Value, (execOp a.eval o).run Try.prog w = .ok (.enter f av.toArray) w ∧ All2 (RepE cx.p ρ w) us av := by
  have hav := hargs.rep hs (by intro x hx; rw [ho]; simp only [Op.operands, Call.operands]; simp at hx ⊢; exact .inr hx)
  refine ⟨_, ?_, hav⟩
  unfold execOp
  simp only [ho, resolve, Act.eval, Deferred.ofValue, Sem.run_bind, Sem.run_pure, Result.andThen_ok, invoke, List.map_toArray, Array.empty_append, List.append_toArray, List.nil_append, List.append_nil, hent]
  rw [show (args.toList.map a.eval).toArray = args.map a.eval by apply Array.ext'; simp]
  simp
theorem k1c {f : FuncId} {qs : List (Nat × Nat)} {x : Operand} {args : Array Operand} {ts : Array TypeId} {us : List E1} {ρ : Rh} {a : Act} {w : World} (hlo : Nat.blt f nE = false) (ho : o.op = .call { callee := .value x, args := args, argTypes := ts }) (hent : ∀ (ar : Array Value) (w : World), (callFunc (fnU f) ar).run Try.prog w = .ok (.enter (fnU f) ar) w) (hx : Ev l x (.e (.c (.fn f qs)))) (hargs : EvA l args.toList us) (hs : aL cx.p ρ w l o.op.operands a) :
    ∃ av : List Value, (execOp a.eval o).run Try.prog w = .ok (.enter (fnU f) av.toArray) w ∧ All2 (RepE cx.p ρ w) ((qs.map fun q => .c (.ptr q.1 q.2)) ++ us) av := by
  have hav := hargs.rep hs (by intro x hx; rw [ho]; simp only [Op.operands, Call.operands]; simp at hx ⊢; exact .inr hx)
  obtain ⟨cs, hc, hq⟩ := k31 (hx.rep hs (by rw [ho]; simp [Op.operands, Call.operands]))
  rw [k8d hlo] at hc
  refine ⟨cs ++ args.toList.map a.eval, ?_, hq.ptrs.app hav⟩
  unfold execOp
  simp only [ho, resolve, hc, Deferred.ofValue, Sem.run_bind, Sem.run_pure, Result.andThen_ok, invoke, List.map_toArray, Array.empty_append, Array.append_empty, List.append_toArray, List.nil_append, List.append_nil, hent]
  rw [show (cs ++ args.toList.map a.eval).toArray = cs.toArray ++ args.map a.eval by apply Array.ext'; simp]
theorem k1a {f : FuncId} {qs : List (Nat × Nat)} {x : Operand} {args : Array Operand} {ts : Array TypeId} {us : List E1} {ρ : Rh} {a : Act} {w : World} (hlo : Nat.blt f nE = true) (ho : o.op = .call { callee := .value x, args := args, argTypes := ts }) (hent : ∀ (ar : Array Value) (w : World), (callFunc f ar).run Try.prog w = .ok (.enter f ar) w) (hx : Ev l x (.e (.c (.fn f qs)))) (hargs : EvA l args.toList us) (hs : aL cx.p ρ w l o.op.operands a) :
    ∃ av : List Value, (execOp a.eval o).run Try.prog w = .ok (.enter f av.toArray) w ∧ All2 (RepE cx.p ρ w) (us ++ qs.map fun q => .c (.ptr q.1 q.2)) av := by
  have hav := hargs.rep hs (by intro x hx; rw [ho]; simp only [Op.operands, Call.operands]; simp at hx ⊢; exact .inr hx)
  obtain ⟨cs, hc, hq⟩ := k31 (hx.rep hs (by rw [ho]; simp [Op.operands, Call.operands]))
  rw [xU hlo] at hc
  refine ⟨args.toList.map a.eval ++ cs, ?_, hav.app hq.ptrs⟩
  unfold execOp
  simp only [ho, resolve, hc, Deferred.ofValue, Sem.run_bind, Sem.run_pure, Result.andThen_ok, invoke, List.map_toArray, Array.empty_append, List.append_toArray, List.nil_append, List.append_nil, hent]
  rw [show (args.toList.map a.eval ++ cs).toArray = args.map a.eval ++ cs.toArray by apply Array.ext'; simp]
theorem k3n {f nx nout : Nat} {ps foot : List Nat} {snap : Bool} {us xs : List E1} {gin gout : List (Nat × Option Bk)} {y : PV}
    (hrun : ∀ ρ a w, aL cx.p ρ w l o.op.operands a → ∃ av : List Value, (execOp a.eval o).run Try.prog w = .ok (.enter f av.toArray) w ∧ All2 (RepE cx.p ρ w) us av) (hpass : All2 (PassE g ps nx snap foot) us xs) (hF : Fun f xs gin ps.length y gout nout)
    (hgin : ∀ x ∈ gin, ∀ T cs, x.2 = some (T, cs) → cs.all (eI ps.length) = true ∧ x.1 < ps.length ∧ Look g (nm ps nx x.1) (some (T, cs.map (aK (nm ps nx))))) (hps : ∀ b ∈ ps, foot.contains b = true ∧ ∃ x : Bk, Look g b (some x)) (hout : k05 ps gout nout = true) (hsn : snap = false ∨ (l4 y && n7 gout) = true) :
    OpOK cx o (S l) (S g) ⟨gM (nm ps nx) y, gout.map (fun x => (nm ps nx x.1, fL (nm ps nx) x.2)), (List.range (nout - ps.length)).map (nx + ·), foot⟩ := by
  intro Q ρ a w hL hs hf hnews hh hk hdf K hK
  unfold k05 at hout
  simp only [Bool.and_eq_true, List.all_eq_true] at hout
  obtain ⟨ho1, ho2, ho3, ho4⟩ := hout
  have ho1 : ∀ x ∈ gout, x.1 < nout := fun x hx => Nat.le_of_ble_eq_true (ho1 x hx)
  have ho3 : ps.length ≤ nout := Nat.le_of_ble_eq_true ho3
  have hnew : ∀ b, nx ≤ b → b < nx + (nout - ps.length) → ρ b = none := fun b h1 h2 => hnews b (List.mem_map.2 ⟨b - nx, List.mem_range.2 (by omega), by omega⟩)
  have hlive : ∀ b ∈ ps, ∃ T cs m, hL b = some (T, cs) ∧ ρ b = some m := by
    intro b hb
    obtain ⟨h1, ⟨T, cs⟩, h2⟩ := hps b hb
    have h3 : hL b = some (T, cs) := by rw [hf b (by simpa using h1), h2.S]
    obtain ⟨m, h4, _⟩ := hh.row b T cs h3
    exact ⟨T, cs, m, h3, h4⟩
  have hrow : ∀ b m, hL b ≠ none → ρ b = some m → m.nl = false → m.g < w.heap.size ∧ cx.may m.g := by
    intro b m h1 h2 h3
    obtain ⟨⟨T, cs⟩, h4⟩ := Option.ne_none_iff_exists'.1 h1
    exact ⟨(hh.at h4 h2 h3).1.lt, (hh.at h4 h2 h3).2⟩
  have hlivep : ∀ b ∈ ps, hL b ≠ none := fun b hb => by obtain ⟨T, cs, m, h1, _⟩ := hlive b hb; rw [h1]; simp
  let cx' : Cx :=
    { p := fun k => pz cx.p ρ k ∨ (snap = true ∧ ∃ b m, hL b ≠ none ∧ b ∉ ps ∧ ρ b = some m ∧ m.nl = false ∧ m.g = k)
      W := w
      may := fun k => w.heap.size ≤ k ∨ ∃ b m, b ∈ ps ∧ ρ b = some m ∧ m.nl = false ∧ m.g = k
      pm := by
        rintro k ((h | h) | ⟨_, b, m, h1, h2, h3, h4, rfl⟩) (h' | ⟨b', m', h1', h2', h3', h4'⟩)
        · have := cx.pW k h; have := hk.size; omega
        · exact cx.pm k h (h4' ▸ (hrow b' m' (hlivep b' h1') h2' h3').2)
        · have := hh.zl k h; omega
        · exact hh.zf b' m' (hlivep b' h1') h2' h3' (h4' ▸ h)
        · have := (hrow b m h1 h3 h4).1; omega
        · exact h2 (hh.inj b b' m m' h1 (hlivep b' h1') h3 h2' h4 h3' h4'.symm ▸ h1')
      mayNew := fun k h => .inl h
      pW := by
        rintro k ((h | h) | ⟨_, b, m, h1, h2, h3, h4, rfl⟩)
        · have := cx.pW k h; have := hk.size; omega
        · exact hh.zl k h
        · exact (hrow b m h1 h3 h4).1
      ρ0 := ⟨fun b => if b < ps.length then ρ (ps.getD b 0) else none, fun _ => False⟩
      n0 := ps.length
      hn0 := by intro b m h; by_cases hb : b < ps.length <;> simp [hb] at h ⊢
      gl := (cx.glo hk).mono (fun k h => .inl (.inl h)) (Nat.le_refl _) (fun _ _ _ => rfl) }
  have hρc : ∀ b, b < ps.length → cx'.ρ0 b = ρ (nm ps nx b) := fun b hb => by show (if b < ps.length then ρ (ps.getD b 0) else none) = _; rw [if_pos hb, aQ hb]
  have hpp : ∀ k, pz cx.p ρ k → cx'.p k := fun k h => .inl h
  have hginS : ∀ b T cs, S gin b = some (T, cs) → (b, some (T, cs)) ∈ gin := by
    intro b T cs hb
    unfold Proofs.Ytdbjebdomdnbkaa.S at hb
    cases hl : gin.lookup b with
    | none => rw [hl] at hb; cases hb
    | some x => rw [hl] at hb; simp at hb; subst hb; exact yA hl
  have hgl : ∀ b T cs, S gin b = some (T, cs) → cs.all (eI ps.length) = true ∧ b < ps.length ∧ hL (nm ps nx b) = some (T, cs.map (aK (nm ps nx))) := by
    intro b T cs hb
    obtain ⟨h1, h2, h3⟩ := hgin _ (hginS b T cs hb) T cs rfl
    refine ⟨h1, h2, ?_⟩
    rw [hf _ (by have := (hps (nm ps nx b) (by rw [aQ h2]; exact gP h2)).1; simpa using this), h3.S]
  have hhc : HRep cx' cx'.ρ0 w (S gin) := by
    refine ⟨?_, ?_, fun _ _ _ _ _ h => h, fun k h => False.elim h, fun k h => False.elim h⟩
    · intro b T cs hb
      obtain ⟨h1, h2, h3⟩ := hgl b T cs hb
      obtain ⟨m, k1, k2⟩ := hh.row _ T _ h3
      refine ⟨m, by rw [hρc b h2]; exact k1, ?_⟩
      rcases k2 with ⟨k2, k3⟩ | ⟨k2, ⟨vs, rest, r1, r2, r3⟩, k4⟩
      · exact .inl ⟨k2, by simpa using k3⟩
      · exact .inr ⟨k2, ⟨vs, rest, r1, r2, r3.unmapL _ (eI ps.length) (fun _ _ hq hc => RepC.unmap hρc (fun k h => .inl (hpp k h)) hq hc) h1⟩, .inr ⟨nm ps nx b, m, by rw [aQ h2]; exact gP h2, k1, k2, rfl⟩⟩
    · intro b b' m m' hb hb' hm hm' hnl hnl' he
      obtain ⟨⟨T, cs⟩, e1⟩ := Option.ne_none_iff_exists'.1 hb
      obtain ⟨⟨T', cs'⟩, e2⟩ := Option.ne_none_iff_exists'.1 hb'
      obtain ⟨_, q2, q3⟩ := hgl b T cs e1
      obtain ⟨_, q2', q3'⟩ := hgl b' T' cs' e2
      rw [hρc b q2] at hm
      rw [hρc b' q2'] at hm'
      have := hh.inj _ _ m m' (by rw [q3]; simp) (by rw [q3']; simp) hm hm' hnl hnl' he
      rw [aQ q2, aQ q2'] at this
      exact dE ho4 b b' q2 q2' this
  obtain ⟨av, hrn, hav⟩ := hrun ρ a w hs
  have hxv : All2 (RepE cx'.p cx'.ρ0 w) xs av := by
    refine uU (fun u x v hp hr => ?_) hpass hav
    have hpc : ∀ {c c' : C} {v : Value}, PassC g ps nx snap foot c c' → RepC cx.p ρ w c v → RepC cx'.p cx'.ρ0 w c' v := fun h hc => u5d hh hf hρc hpp (fun hsn' b m h1 h2 h3 h4 => .inr ⟨hsn', b, m, h1, h2, h3, h4, rfl⟩) h hc
    cases hp with
    | c h => exact hpc h hr
    | agg h => obtain ⟨us', e, h2⟩ := hr; exact ⟨us', e, uU (R := PassC g ps nx snap foot) (T := RepC cx.p ρ w) (U := RepC cx'.p cx'.ρ0 w) (fun _ _ _ h3 h4 => hpc h3 h4) h h2⟩
  have hcall := hF cx' av rfl hhc hxv
  unfold Oper.wp
  rw [hrn]
  simp only [Oper.upon]
  refine hcall.mono ?_
  rintro e w' ⟨v, ρ1, rfl, hext, hfar, hH1, hK1, hy1⟩
  have hsame : ∀ b, b < ps.length → ρ1 b = ρ (ps.getD b 0) := by
    intro b hb
    obtain ⟨T, cs, m, h1, h2⟩ := hlive _ (gP hb)
    rw [h2]
    exact hext b m (by show (if b < ps.length then ρ (ps.getD b 0) else none) = _; rw [if_pos hb]; exact h2)
  obtain ⟨ρ2, hρ2⟩ : ∃ ρ2 : Rh, ρ2 = ⟨fun b => if nx ≤ b ∧ b < nx + (nout - ps.length) then ρ1 (b - nx + ps.length) else ρ b, fun k => ρ.z k ∨ ρ1.z k⟩ := ⟨_, rfl⟩
  have hz2 : ∀ k, ρ2.z k ↔ (ρ.z k ∨ ρ1.z k) := fun k => by rw [hρ2]
  have hpz : snap = false → ∀ k, pz cx'.p ρ1 k → pz cx.p ρ2 k := by
    rintro hs0 k ((h | ⟨h, _⟩) | h)
    · exact h.imp id (fun h => (hz2 k).2 (.inl h))
    · rw [hs0] at h; cases h
    · exact .inr ((hz2 k).2 (.inr h))
  have hpn : ∀ k, pz (fun _ => False) ρ1 k → pz cx.p ρ2 k := fun k h => h.elim False.elim (fun h => .inr ((hz2 k).2 (.inr h)))
  have hout2 : ∀ b, ¬ (nx ≤ b ∧ b < nx + (nout - ps.length)) → ρ2 b = ρ b := fun b hb => by rw [hρ2]; simp only [hb, if_false]
  have hkeep : ∀ b m, ρ b = some m → ρ2 b = some m := by
    intro b m hb
    rw [hout2 b (fun h => by rw [hnew b h.1 h.2] at hb; cases hb)]; exact hb
  have hσ : ∀ b m, ρ1 b = some m → ρ2 (nm ps nx b) = some m := by
    intro b m hb
    by_cases h1 : b < ps.length
    · rw [aQ h1]; rw [hsame b h1] at hb; exact hkeep _ _ hb
    · have h2 : b < nout := by
        rcases Nat.lt_or_ge b nout with h | h
        · exact h
        · rw [hfar b h] at hb; cases hb
      rw [k0d (by omega), hρ2]
      have h3 : nx ≤ nx + (b - ps.length) ∧ nx + (b - ps.length) < nx + (nout - ps.length) := by omega
      simp only [h3, and_self, if_true]
      rw [show nx + (b - ps.length) - nx + ps.length = b by omega]; exact hb
  have hinj : ∀ b b', b < nout → b' < nout → nm ps nx b = nm ps nx b' → b = b' := by
    have hpn : ∀ b, b < ps.length → ∀ c, c < nout → ps.length ≤ c → nm ps nx b ≠ nm ps nx c := by
      intro b hb c hc hc2 he
      obtain ⟨T, cs, m, h1, h2⟩ := hlive _ (gP hb)
      rw [aQ hb, k0d hc2] at he
      rw [he, hnew _ (by omega) (by omega)] at h2
      cases h2
    intro b b' hb hb' he
    by_cases h1 : b < ps.length
    · by_cases h2 : b' < ps.length
      · rw [aQ h1, aQ h2] at he; exact dE ho4 b b' h1 h2 he
      · exact absurd he (hpn b h1 b' hb' (by omega))
    · by_cases h2 : b' < ps.length
      · exact absurd he.symm (hpn b' h2 b hb (by omega))
      · rw [k0d (by omega), k0d (by omega)] at he; omega
  obtain ⟨wr, hwr⟩ : ∃ wr, wr = gout.map (fun x => (nm ps nx x.1, fL (nm ps nx) x.2)) := ⟨_, rfl⟩
  have hlk : ∀ b, b < nout → wr.lookup (nm ps nx b) = (gout.lookup b).map (fL (nm ps nx)) := by
    intro b hb
    rw [hwr]
    exact fN gout (fun y hy he => hinj _ _ (ho1 y hy) hb he)
  have himg : ∀ x z, wr.lookup x = some z → ∃ b, b < nout ∧ x = nm ps nx b ∧ ∃ ob, gout.lookup b = some ob ∧ z = fL (nm ps nx) ob := by
    intro x z hx
    have hm := yA hx
    rw [hwr] at hm
    obtain ⟨y, hy, he⟩ := List.mem_map.1 hm
    simp at he
    obtain ⟨he1, he2⟩ := he
    have hb := ho1 y hy
    refine ⟨y.1, hb, he1.symm, ?_⟩
    rw [← he1, hlk y.1 hb] at hx
    obtain ⟨ob, h1, h2⟩ := Option.map_eq_some_iff.1 hx
    exact ⟨ob, h1, h2.symm⟩
  have hpsl : ∀ b ∈ ps, ∃ z, wr.lookup b = some z := by
    intro b hb
    obtain ⟨i, hi⟩ := List.mem_iff_getElem?.1 hb
    have hil := (List.getElem?_eq_some_iff.1 hi).1
    have hbi : nm ps nx i = b := by rw [aQ hil, List.getD_eq_getElem?_getD, hi]; rfl
    have h1 := ho2 i (List.mem_range.2 hil)
    obtain ⟨ob, h2⟩ := k83 (l := gout) (b := i) (by simpa using h1)
    exact ⟨_, by rw [← hbi, hlk i (by omega), h2]; rfl⟩
  have hgo : Goes cx.p ρ ρ2 w w' := ⟨hkeep, fun k h => (hz2 k).2 (.inl h), hK1.size, fun k hp hlt => hK1.block k hlt (cx'.pm k (hpp k hp))⟩
  have hconv : ∀ {x : C} {v : Value}, (snap = false ∨ gH x = true) → RepC cx'.p ρ1 w' x v → RepC cx.p ρ2 w' (aK (nm ps nx) x) v := by
    intro x v h hc
    rcases h with h | h
    · exact RepC.map hσ (hpz h) hc
    · exact RepC.map hσ hpn (hc.nosl h)
  have hsnG : ∀ b T cs, gout.lookup b = some (some (T, cs)) → ∀ c ∈ cs, snap = false ∨ gH c = true := by
    intro b T cs hb c hc
    rcases hsn with h | h
    · exact .inl h
    · rw [Bool.and_eq_true] at h
      have h2 := h.2
      unfold n7 at h2
      rw [List.all_eq_true] at h2
      have h3 := h2 _ (yA hb)
      exact .inr (List.all_eq_true.1 h3 c hc)
  have hrow2 : ∀ b T cs m, gout.lookup b = some (some (T, cs)) → Row cx'.p ρ1 w' m T cs → Row cx.p ρ2 w' m T (cs.map (aK (nm ps nx))) := by
    rintro b T cs m hb ⟨vs, rest, r1, r2, r3⟩
    refine ⟨vs, rest, r1, r2, ?_⟩
    refine All2.mk (by rw [List.length_map]; exact r3.len) ?_
    intro i c u hc hu
    rw [List.getElem?_map] at hc
    obtain ⟨c0, hc0, rfl⟩ := Option.map_eq_some_iff.1 hc
    exact hconv (hsnG b T cs hb c0 (List.mem_of_getElem? hc0)) (r3.get i c0 u hc0 hu)
  have hmay2 : ∀ k, cx'.may k → cx.may k := by
    rintro k (h | ⟨b, m, h1, h2, h3, rfl⟩)
    · exact cx.mayNew k (Nat.le_trans hk.size h)
    · exact (hrow b m (hlivep b h1) h2 h3).2
  have hHn : HRep cx ρ2 w' (fun b => (wr.lookup b).getD (hL b)) := by
    have hold2 : ∀ x m, (hL x) ≠ none → wr.lookup x = none → ρ x = some m → m.nl = false → ¬ cx'.may m.g := by
      intro x m hx hlx hm hnl
      rintro (h | ⟨b, m', h1, h2, h3, h4⟩)
      · have := (hrow x m hx hm hnl).1; have h : w.heap.size ≤ m.g := h; omega
      · have := hh.inj x b m m' hx (hlivep b h1) hm h2 hnl h3 h4.symm
        subst this
        obtain ⟨z, hz⟩ := hpsl x h1
        rw [hz] at hlx; cases hlx
    have hznew : ∀ k, ρ2.z k → ρ.z k ∨ (cx.may k ∧ k < w'.heap.size ∧ ∀ b m, (wr.lookup b).getD (hL b) ≠ none → ρ2 b = some m → m.nl = false → m.g ≠ k) := by
      intro k hk2
      rcases (hz2 k).1 hk2 with h | h
      · exact .inl h
      · refine .inr ⟨hmay2 k (hH1.zm k h), hH1.zl k h, ?_⟩
        intro x m hx hm hnl he
        subst he
        cases hlx : wr.lookup x with
        | none =>
          simp only [hlx, Option.getD_none] at hx
          obtain ⟨⟨T3, cs3⟩, h3⟩ := Option.ne_none_iff_exists'.1 hx
          obtain ⟨m3, q1, _⟩ := hh.row x T3 cs3 h3
          have := hkeep x m3 q1
          rw [hm] at this; cases this
          exact hold2 x m hx hlx q1 hnl (hH1.zm _ h)
        | some z =>
          obtain ⟨b, hb, rfl, ob, hob, hz⟩ := himg x _ hlx
          simp only [hlx, Option.getD_some] at hx
          cases ob with
          | none => rw [hz] at hx; exact hx rfl
          | some tb =>
            have hS : S gout b = some (tb.1, tb.2) := by unfold Proofs.Ytdbjebdomdnbkaa.S; rw [hob]; rfl
            obtain ⟨m2, q1, _⟩ := hH1.row b _ _ hS
            have := hσ b m2 q1
            rw [hm] at this; cases this
            exact hH1.zf b m (by rw [hS]; simp) q1 hnl h
    refine hh.step hgo ?_ hznew
    intro x T cs hx
    cases hlx : wr.lookup x with
    | none =>
      simp only [hlx, Option.getD_none] at hx
      refine .inl ⟨hx, fun m hm hnl => ?_⟩
      refine hK1.block _ (hrow x m (by rw [hx]; simp) hm hnl).1 ?_
      rintro (h | ⟨b, m', h1, h2, h3, h4⟩)
      · have := (hrow x m (by rw [hx]; simp) hm hnl).1; have h : w.heap.size ≤ m.g := h; omega
      · have := hh.inj x b m m' (by rw [hx]; simp) (hlivep b h1) hm h2 hnl h3 h4.symm
        subst this
        obtain ⟨z, hz⟩ := hpsl x h1
        rw [hz] at hlx; cases hlx
    | some z =>
      simp only [hlx, Option.getD_some] at hx
      subst hx
      obtain ⟨b, hb, rfl, ob, hob, hz⟩ := himg x _ hlx
      cases ob with
      | none => cases hz
      | some tb =>
        obtain ⟨T1, cs1⟩ := tb
        simp [fL] at hz
        obtain ⟨rfl, rfl⟩ := hz
        have hS : S gout b = some (T, cs1) := by unfold Proofs.Ytdbjebdomdnbkaa.S; rw [hob]; rfl
        obtain ⟨m, k1, k2⟩ := hH1.row b T cs1 hS
        right
        refine ⟨m, hσ b m k1, ?_⟩
        rcases k2 with ⟨k2, k3⟩ | ⟨k2, k3, k4⟩
        · exact .inl ⟨k2, by rw [k3]; rfl⟩
        · refine .inr ⟨k2, hrow2 b T cs1 m hob k3, hmay2 _ k4, ?_, ?_⟩
          · intro hz
            rcases k4 with h | ⟨b4, m4, h1, h2, h5, h6⟩
            · have := hh.zl _ hz; have h : w.heap.size ≤ m.g := h; omega
            · exact hh.zf b4 m4 (hlivep b4 h1) h2 h5 (h6 ▸ hz)
          intro b' m' hne h' hm' hnl' he
          cases hlb : wr.lookup b' with
          | some z' =>
            obtain ⟨b2, hb2, rfl, ob2, hob2, hz2⟩ := himg b' _ hlb
            simp only [hlb, Option.getD_some] at h'
            cases ob2 with
            | none => rw [hz2] at h'; exact h' rfl
            | some tb2 =>
              have hS2 : S gout b2 = some (tb2.1, tb2.2) := by unfold Proofs.Ytdbjebdomdnbkaa.S; rw [hob2]; rfl
              obtain ⟨m2, q1, _⟩ := hH1.row b2 _ _ hS2
              have := hσ b2 m2 q1
              rw [hm'] at this; cases this
              exact hne (by rw [hH1.inj b2 b m' m (by rw [hS2]; simp) (by rw [hS]; simp) q1 k1 hnl' k2 he])
          | none =>
            simp only [hlb, Option.getD_none] at h'
            have hbp : b' ∉ ps := fun h => by obtain ⟨z, hz⟩ := hpsl b' h; rw [hz] at hlb; cases hlb
            obtain ⟨⟨T3, cs3⟩, h3⟩ := Option.ne_none_iff_exists'.1 h'
            obtain ⟨m3, q1, _⟩ := hh.row b' T3 cs3 h3
            have := hkeep b' m3 q1
            rw [hm'] at this; cases this
            have hlt := (hrow b' m' h' q1 hnl').1
            rcases k4 with h | ⟨b4, m4, h1, h2, h5, h6⟩
            · have h : w.heap.size ≤ m.g := h; omega
            · exact hbp (hh.inj b' b4 m' m4 h' (hlivep b4 h1) q1 h2 hnl' h5 (by rw [he, h6]) ▸ h1)
  have hKn : Kept cx.W cx.may w' := by
    refine hk.below hK1.os hK1.tape hK1.output hK1.size (fun k hk' hnm => hK1.block k (Nat.lt_of_lt_of_le hk' hk.size) (fun h => hnm (hmay2 k h)))
  refine hK v w' ρ2 hgo ?_ (by rw [← hwr]; exact hHn) hKn ?_
  · intro b hb hn
    rw [hout2 b (fun h => hb (List.mem_map.2 ⟨b - nx, List.mem_range.2 (by omega), by omega⟩))]
    exact hn
  · rcases hsn with h | h
    · exact RepPV.map hσ (hpz h) hy1
    · rw [Bool.and_eq_true] at h
      exact RepPV.map hσ hpn (RepPV.nosl h.1 hy1)
theorem tJ {x : Operand} {b off : Nat} (ho : o.op = .nilCheck x) (hx : Ev l x (.e (.c (.ptr b off)))) : OpOK cx o (S l) (S g) ⟨.e (.c (.ptr b off)), [], [], []⟩ :=
  qK fun ρ a w hs => by
    have hr := hx.rep hs (by rw [ho]; simp [Op.operands])
    obtain ⟨m, hm, hn, e⟩ := bT hr
    exact ⟨_, by unfold execOp; simp [ho, e], e ▸ hr⟩
end
end Go.Proofs.Ytdbjebdomdnbkaa
