/- A memory told by names: small lemmas for what is computed. No statement is proved here. -/
import Derived.Test.YtdbjebdomdnbkaaZAmJ
import Derived.LoopN
namespace Go.Proofs.Ytdbjebdomdnbkaa
open Go.ChangeShapes Go.WideShapes Go.ChangeAt Go.RowKit
open List renaming getD_eq_getElem?_getD → ka8, lookup_cons → kc5, replicate → ka5
set_option linter.unusedVariables false
set_option linter.unusedSimpArgs false
theorem dH (k : IntKind) (l : List Int) (i : Nat) (h : i < l.length) : (dI k l)[i]? = some (.lit (.int k (l.getD i 0))) := by
 unfold dI; simp [ka8, h]
theorem dF (k : IntKind) (n : Nat) (x : Int) : ka5 n (D.lit (.int k x)) = dI k (ka5 n x) := by unfold dI; simp
theorem qT (k : IntKind) (l l' : List Int) : dI k l ++ dI k l' = dI k (l ++ l') := by unfold dI; simp
theorem u30 (k : IntKind) (l : List Int) (i : Nat) (x : Int) : k15 (dI k l) i [.lit (.int k x)] = dI k (l.set i x) := by
 show (dI k l).set i _ = _
 unfold dI; rw [List.map_set]
theorem u0j (k : IntKind) (l : List Int) : (dI k l).all k0c = true := by unfold dI; rw [List.all_map]; exact List.all_eq_true.2 fun _ _ => rfl
theorem oN (k : IntKind) (l m : List Int) (o n : Nat) : (dI k l).take o ++ (dI k m).take n ++ (dI k l).drop (o + n) = dI k (l.take o ++ m.take n ++ l.drop (o + n)) := by unfold dI; simp [List.map_take, List.map_drop]
theorem qU {cx : Cx} {n nx : Nat} {c : Code} {Q : yP} {s : ES} {l : List (Nat × PV)} {g : EH} (h1 : s.l = l) (h2 : s.g = g) (h3 : s.nx = nx) (h : AW cx n c Q ⟨l, kF g, nx⟩) : AW cx n c Q s.st := by subst h1; subst h2; subst h3; exact h
theorem Fun.y {f n0 n1 : Nat} {xs : List E1} {g0 g1 : List (Nat × Option Bk)} {y y' : PV} (h : Fun f xs g0 n0 y g1 n1) (e : y = y') : Fun f xs g0 n0 y' g1 n1 := e ▸ h
theorem Fun.cv {f n0 n1 : Nat} {xs : List E1} {g0 g1 g1' : List (Nat × Option Bk)} {y y' : PV} (h : Fun f xs g0 n0 y g1 n1) (e : y = y') (e2 : g1 = g1') : Fun f xs g0 n0 y' g1' n1 := e ▸ e2 ▸ h
theorem eX {l : List Int} {a b : Int} (h : (l.all fun x => decide (a ≤ x ∧ x ≤ b)) = true) (i : Nat) (hi : i < l.length) : a ≤ List.getD l i 0 ∧ List.getD l i 0 ≤ b := by
 rw [ka8, List.getElem?_eq_getElem hi]
 exact of_decide_eq_true (List.all_eq_true.1 h _ (List.getElem_mem hi))
/-! short names for what a text says most -/
abbrev iD (x : Int) : D := .lit (.int .i64 x)
abbrev iC (x : Int) : C := .d (.lit (.int .i64 x))
abbrev iE (x : Int) : E1 := .c (.d (.lit (.int .i64 x)))
abbrev iV (x : Int) : PV := .e (.c (.d (.lit (.int .i64 x))))
abbrev oV (b off n s : Nat) : PV := .e (.c (.own b off n s true))
abbrev rV (b off : Nat) : PV := .e (.c (.ptr b off))
def AWr (cx : Cx) (n : Nat) (c : Code) (Q : yP) : Nat → St → Prop
 | 0, _ => False
 | k + 1, s => AW cx n c (i6 (AWr cx n c Q k) Q) s
theorem AWr.s {cx : Cx} {n : Nat} {c : Code} {Q : yP} {k : Nat} {s : St} (h : AW cx n c (i6 (AWr cx n c Q k) Q) s) : AWr cx n c Q (k + 1) s := h
theorem AWr.ok {cx : Cx} {n : Nat} {c : Code} {Q : yP} : ∀ {k : Nat} {s : St}, AWr cx n c Q k s → ∀ a w, Mod cx n s.l s.g s.nx a w → Code.rounds Try.prog c (fun e a' w' => ∃ s', Q e s' ∧ Mod cx n s'.l s'.g s'.nx a' w') k a w
 | 0, _, h, _, _, _ => h.elim
 | k + 1, s, h, a, w, hm => by
  refine wp_mono (h a w hm) ?_
  rintro e a' w' ⟨s', h1, h2⟩
  cases e with
  | normal => exact AWr.ok (k := k) h1 a' w' h2
  | _ => exact ⟨s', h1, h2⟩
theorem AW.rounds {cx : Cx} {n : Nat} {c : Code} {Q : yP} {s : St} (k : Nat) (h : AWr cx n c Q k s) : AW cx n (.loop c) Q s := fun a w hm => wp_loop_rounds k (h.ok a w hm)
theorem AWr.same {cx : Cx} {n n0 : Nat} {c : Code} {Q : yP} (hn : cx.n0 = n0) : ∀ {k : Nat} {s t : St}, k6s n0 s t → AWr cx n c Q k t → AWr cx n c Q k s
 | 0, _, _, _, h => h.elim
 | _ + 1, _, _, ⟨σ, h1, h2⟩, h => AW.ren σ n0 _ hn h1 h2 h
theorem AWr.join {cx : Cx} {n n0 k : Nat} {c : Code} {Q : yP} {s : St} (hn : cx.n0 = n0) (l : List (Nat × PV)) (g : EH) (nx : Nat) (h1 : AW cx n c (i6 (Rd n0 (fun _ : Unit => (⟨l, g, nx⟩ : ES)) (fun _ => True)) Q) s) (h2 : AWr cx n c Q k ⟨l, kF g, nx⟩) : AWr cx n c Q (k + 1) s := by
 refine AWr.s (h1.mono ?_)
 intro e s' h
 cases e with
 | normal =>
  obtain ⟨_, hs, _⟩ := h
  exact AWr.same hn hs h2
 | _ => exact h
theorem Mod.adoptS {cx : Cx} {n nx : Nat} {l l' : List (Nat × PV)} {g : List (Nat × Option Bk)} {t s : Nat} {T2 : TypeId} (hc : l.lookup t = some (LV aT)) {a : Act} {w : World} (h : Mod cx n l g nx a w) : Mod cx n ((t, .e (.c (.own nx 0 0 s true))) :: l) ((nx, some (T2, [])) :: g) (nx + 1) a w := by
 obtain ⟨ρ, h1, h2, h3, h4, h5, h6, h9⟩ := h
 have hnx : ρ nx = none := h6 nx (Nat.le_refl _)
 have hgo : Goes cx.p ρ (ρ.set nx ⟨0, 0, true⟩) w w := by
  refine ⟨fun b m hb => ?_, fun _ h => h, Nat.le_refl _, fun _ _ _ => rfl⟩
  have : b ≠ nx := fun e => by rw [e, hnx] at hb; cases hb
  simp [this, hb]
 refine ⟨ρ.set nx ⟨0, 0, true⟩, h1, ⟨?_, ?_, ?_, h2.zm, h2.zl⟩, ?_, h4, h5, ?_, fun b m hb => hgo.ext _ _ (h9 b m hb)⟩
 ·intro x T' cs' hx
  unfold Proofs.Ytdbjebdomdnbkaa.S at hx
  rw [kc5] at hx
  by_cases hxn : x = nx
  ·subst hxn
   simp at hx
   obtain ⟨rfl, rfl⟩ := hx
   exact ⟨⟨0, 0, true⟩, by simp, .inl ⟨rfl, rfl⟩⟩
  ·have hxn' : (x == nx) = false := by simpa using hxn
   simp only [hxn'] at hx
   obtain ⟨m', q1, q2⟩ := h2.row x T' cs' hx
   refine ⟨m', by simp [hxn, q1], ?_⟩
   rcases q2 with q2 | ⟨q2, q3, q4⟩
   ·exact .inl q2
   ·exact .inr ⟨q2, q3.mono hgo rfl, q4⟩
 ·have hlive : ∀ x, x ≠ nx → S ((nx, some (T2, ([] : List C))) :: g) x ≠ none → S g x ≠ none := by
   intro x hxn hx
   unfold Proofs.Ytdbjebdomdnbkaa.S at hx ⊢
   rw [kc5] at hx
   simpa [show (x == nx) = false by simpa using hxn] using hx
  intro x x' m1 m2 hx hx' hm1 hm2 hn1 hn2 he
  by_cases hxn : x = nx
  ·subst hxn; simp at hm1; subst hm1; cases hn1
  ·by_cases hxn' : x' = nx
   ·subst hxn'; simp at hm2; subst hm2; cases hn2
   ·simp [hxn] at hm1; simp [hxn'] at hm2
    exact h2.inj x x' m1 m2 (hlive x hxn hx) (hlive x' hxn' hx') hm1 hm2 hn1 hn2 he
 ·have hlive : ∀ x, x ≠ nx → S ((nx, some (T2, ([] : List C))) :: g) x ≠ none → S g x ≠ none := by
   intro x hxn hx
   unfold Proofs.Ytdbjebdomdnbkaa.S at hx ⊢
   rw [kc5] at hx
   simpa [show (x == nx) = false by simpa using hxn] using hx
  intro x m1 hx hm1 hn1
  by_cases hxn : x = nx
  ·subst hxn; simp at hm1; subst hm1; cases hn1
  ·simp [hxn] at hm1; exact h2.zf x m1 (hlive x hxn hx) hm1 hn1
 ·intro u
  unfold Proofs.Ytdbjebdomdnbkaa.S
  rw [kc5]
  by_cases hu : u = t
  ·subst hu
   have h8 := h3 u
   rw [l8 hc] at h8
   have h8 := qC h8
   simp only [beq_self_eq_true, Option.getD_some]
   rw [h8]
   exact .ownn nx s ⟨0, 0, true⟩ (by simp) rfl
  ·have hu' : (u == t) = false := by simpa using hu
   simp only [hu']
   exact (h3 u).mono hgo
 ·intro x hx
  have : x ≠ nx := by omega
  simp [this, h6 x (by omega)]
theorem AW.adoptS {cx : Cx} {n nx : Nat} {c : Code} {Q : yP} {l : List (Nat × PV)} {g : EH} (t s : Nat) (T2 : TypeId) (hc : l.lookup t = some (LV aT)) (h : AW cx n c Q ⟨(t, .e (.c (.own nx 0 0 s true))) :: l, kF ((nx, some (T2, .ds [])) :: g), nx + 1⟩) : AW cx n c Q ⟨l, kF g, nx⟩ := fun a w hm => h a w (hm.adoptS (l' := l) hc)
theorem oR {cx : Cx} {n nx : Nat} {c : Code} {Q : yP} {l : List (Nat × PV)} {g : EH} (b i s : Nat) (T2 : TypeId) {T : TypeId} {bc : BC} {cs' : List C} (hb : g.lookup b = some (some (T, bc))) (hc : bc.to[i]? = some (LC aT)) (hs : bc.to.set i (.own nx 0 0 s true) = cs') (h : AW cx n c Q ⟨l, kF ((b, some (T, .cs cs')) :: (nx, some (T2, .ds [])) :: g), nx + 1⟩) : AW cx n c Q ⟨l, kF g, nx⟩ :=
 AW.adopt (b := b) (i := i) (s := s) T2 (qV hb) hc hs h
abbrev dl (l : List Int) (n : Nat) : D := D.sl (dI .i64 l) n
abbrev dm (l : List Int) (n : Nat) : D := D.sl (dI .i32 l) n
abbrev db (l : List Int) (n : Nat) : D := D.sl (dI .u8 l) n
abbrev uC (n : Nat) : C := iC (n : Int)
abbrev uD (n : Nat) : D := iD (n : Int)
abbrev uE (n : Nat) : E1 := iE (n : Int)
abbrev uV (n : Nat) : PV := iV (n : Int)
abbrev qF : D := D.lit (.slice none 0 0)
abbrev zc9 : List D := [iD 0, iD 0, qF, iD 0, iD 0, qF, iD 0, iD 0, qF, iD 0, iD 0, iD 0, iD 0, iD 0, iD 0, qF]
theorem zr {cx : Cx} {n id nx : Nat} {draw : Bool} {ops : List Oper} {Q : yP} {c : Code} {l : List (Nat × PV)} {g : EH} (hs : List H) (live kb : List Nat) (P : Prop) (l' : List (Nat × PV)) (g' : EH) (nx' : Nat) (hP : P) (hQ : AW cx n c Q ⟨l', kF g', nx'⟩) (h : lQ Try.prog Fun n ops hs l g nx live kb = some (P, l', g', nx') := by kernel_rfl) : AW cx n (.seq (.region id ops.toArray draw) c) Q ⟨l, kF g, nx⟩ := sP hs live kb h hP hQ
theorem zg {cx : Cx} {n id nx : Nat} {draw : Bool} {ops : List Oper} {Q : yP} {l : List (Nat × PV)} {g : EH} (hs : List H) (live kb : List Nat) (P : Prop) (l' : List (Nat × PV)) (g' : EH) (nx' : Nat) (hP : P) (hQ : Q .normal ⟨l', kF g', nx'⟩) (h : lQ Try.prog Fun n ops hs l g nx live kb = some (P, l', g', nx') := by kernel_rfl) : AW cx n (.region id ops.toArray draw) Q ⟨l, kF g, nx⟩ := AW.rg hs live kb h hP hQ
theorem zf {cx : Cx} {n : Nat} {Q : yP} {l : List (Nat × PV)} {g : List (Nat × Option Bk)} {nx : Nat} {c : Operand} {x y : Code} (h : AW cx n y Q ⟨l, g, nx⟩) (hc : Ev l c (LV (.bool false)) := by exact .tmp (yQ rfl)) : AW cx n (.cond c x y) Q ⟨l, g, nx⟩ := oQ hc h
theorem zt {cx : Cx} {n : Nat} {Q : yP} {l : List (Nat × PV)} {g : List (Nat × Option Bk)} {nx : Nat} {c : Operand} {x y : Code} (h : AW cx n x Q ⟨l, g, nx⟩) (hc : Ev l c (LV (.bool true)) := by exact .tmp (yQ rfl)) : AW cx n (.cond c x y) Q ⟨l, g, nx⟩ := oP hc h
theorem yC {cx : Cx} {n : Nat} {Q : yP} {l : List (Nat × PV)} {g : List (Nat × Option Bk)} {nx : Nat} {c : Operand} {x : Code} (h : Q .normal ⟨l, g, nx⟩) (hc : Ev l c (LV (.bool false)) := by exact .tmp (yQ rfl)) : AW cx n (.cond c x .skip) Q ⟨l, g, nx⟩ := oQ hc (AW.skip h)
theorem vD {cx : Cx} {n : Nat} {Q : yP} {l : List (Nat × PV)} {g : List (Nat × Option Bk)} {nx : Nat} {c : Operand} {y : Code} (h : Q .normal ⟨l, g, nx⟩) (hc : Ev l c (LV (.bool true)) := by exact .tmp (yQ rfl)) : AW cx n (.cond c .skip y) Q ⟨l, g, nx⟩ := oP hc (AW.skip h)
abbrev kP (a : Nat) : Prop := a = a
abbrev kN (a : Int) : Prop := a = a
abbrev kZ (a : List D) : Prop := a = a
abbrev q9l (a : List Int) : Prop := a = a
abbrev q9m (a : List (List Int)) : Prop := a = a
abbrev kJ (k : Nat) (l : List H) : List H := ka5 k .no ++ l
theorem zs {cx : Cx} {n id nx : Nat} {draw : Bool} {ops : List Oper} {Q : yP} {c : Code} {l : List (Nat × PV)} {g : EH} (hs : List H) (live kb : List Nat) (P : Prop) (l' : List (Nat × PV)) (hP : P) (hQ : AW cx n c Q ⟨l', kF g, nx⟩) (h : lQ Try.prog Fun n ops hs l g nx live kb = some (P, l', g, nx) := by kernel_rfl) : AW cx n (.seq (.region id ops.toArray draw) c) Q ⟨l, kF g, nx⟩ := sP hs live kb h hP hQ
theorem zh {cx : Cx} {n id nx : Nat} {draw : Bool} {ops : List Oper} {Q : yP} {l : List (Nat × PV)} {g : EH} (hs : List H) (live kb : List Nat) (P : Prop) (l' : List (Nat × PV)) (hP : P) (hQ : Q .normal ⟨l', kF g, nx⟩) (h : lQ Try.prog Fun n ops hs l g nx live kb = some (P, l', g, nx) := by kernel_rfl) : AW cx n (.region id ops.toArray draw) Q ⟨l, kF g, nx⟩ := AW.rg hs live kb h hP hQ
theorem kI {cx : Cx} {n id nx : Nat} {draw : Bool} {ops : List Oper} {Q : yP} {c : Code} {l : List (Nat × PV)} {g : EH} (hs : List H) (P : Prop) (l' : List (Nat × PV)) (g' : EH) (nx' : Nat) (hP : P) (hQ : AW cx n c Q ⟨l', kF g', nx'⟩) (h : lQ Try.prog Fun n ops hs l g nx (l'.map Prod.fst) (g'.map Prod.fst) = some (P, l', g', nx') := by kernel_rfl) : AW cx n (.seq (.region id ops.toArray draw) c) Q ⟨l, kF g, nx⟩ := sP hs _ _ h hP hQ
theorem v7 {cx : Cx} {n id nx : Nat} {draw : Bool} {ops : List Oper} {Q : yP} {l : List (Nat × PV)} {g : EH} (hs : List H) (P : Prop) (l' : List (Nat × PV)) (g' : EH) (nx' : Nat) (hP : P) (hQ : Q .normal ⟨l', kF g', nx'⟩) (h : lQ Try.prog Fun n ops hs l g nx (l'.map Prod.fst) (g'.map Prod.fst) = some (P, l', g', nx') := by kernel_rfl) : AW cx n (.region id ops.toArray draw) Q ⟨l, kF g, nx⟩ := AW.rg hs _ _ h hP hQ
theorem k8 {cx : Cx} {n id nx : Nat} {draw : Bool} {ops : List Oper} {Q : yP} {c : Code} {l : List (Nat × PV)} {g : EH} (hs : List H) (P : Prop) (l' : List (Nat × PV)) (hP : P) (hQ : AW cx n c Q ⟨l', kF g, nx⟩) (h : lQ Try.prog Fun n ops hs l g nx (l'.map Prod.fst) (g.map Prod.fst) = some (P, l', g, nx) := by kernel_rfl) : AW cx n (.seq (.region id ops.toArray draw) c) Q ⟨l, kF g, nx⟩ := sP hs _ _ h hP hQ
theorem yD {cx : Cx} {n id nx : Nat} {draw : Bool} {ops : List Oper} {Q : yP} {l : List (Nat × PV)} {g : EH} (hs : List H) (P : Prop) (l' : List (Nat × PV)) (hP : P) (hQ : Q .normal ⟨l', kF g, nx⟩) (h : lQ Try.prog Fun n ops hs l g nx (l'.map Prod.fst) (g.map Prod.fst) = some (P, l', g, nx) := by kernel_rfl) : AW cx n (.region id ops.toArray draw) Q ⟨l, kF g, nx⟩ := AW.rg hs _ _ h hP hQ
theorem kQ {P : Prop} (h : P := by with_reducible assumption) : P := h
abbrev qP (l : List D) (n : Nat) : PV := .e (.c (.d (.sl l n)))
abbrev kS (d : D) : PV := .e (.c (.d d))
end Go.Proofs.Ytdbjebdomdnbkaa
