/- A memory told by names: what functions do. No statement is proved here. -/
import Derived.Test.YtkjmlililpgamaaZAm8
namespace Go.Proofs.Ytkjmlililpgamaa
open Go.ChangeShapes Go.WideShapes Go.ChangeAt Go.RowKit
set_option linter.unusedVariables false
set_option linter.unusedSimpArgs false
/-! results -/
inductive ResE (l : List (Nat × PV)) (g : List (Nat × Option Bk)) : ResultVar → E1 → Prop where
 | tmp {t : Nat} {e : E1} (h : Look l t (.e e)) : ResE l g (.tmp t) e
 | cell {a b off : Nat} {ty T : TypeId} {cs : List C} {c : C} (h : Look l a (.e (.c (.ptr b off)))) (ht : qM Try.prog ty = some (false, 1)) (hb : Look g b (some (T, cs))) (hc : cs[off]? = some c) : ResE l g (.cell a ty) (.c c)
 | agg {a b off n : Nat} {ty T : TypeId} {cs cs' : List C} (h : Look l a (.e (.c (.ptr b off)))) (ht : qM Try.prog ty = some (true, n)) (hb : Look g b (some (T, cs))) (hc : (cs.drop off).take n = cs') (hl : cs'.length = n) : ResE l g (.cell a ty) (.agg cs')
def cW (tmps : Array Value) : ResultVar → Sem Value
 | .tmp t => pure (tmps.getD t undef)
 | .cell a t => do loadVar t (← asAddr (tmps.getD a undef))
theorem ResE.run {cx : Cx} {ρ : Rh} {w : World} {l : List (Nat × PV)} {g : List (Nat × Option Bk)} {tmps : Array Value} (hh : HRep cx ρ w (S g)) (hs : ∀ t, RepPV cx.p ρ w (S l t) (tmps.getD t undef)) {r : ResultVar} {e : E1} (h : ResE l g r e) : ∃ v, (cW tmps r).run Try.prog w = .ok v w ∧ RepE cx.p ρ w e v := by
 cases h with
 | @tmp t _ h => have := hs t; rw [h.S] at this; exact ⟨_, rfl, this⟩
 | @cell a b off ty T cs c h ht hb hc =>
  have h1 := hs a
  rw [h.S] at h1
  obtain ⟨m, hm, hn, e⟩ := yH h1
  obtain ⟨v, h2, h3⟩ := (hh.at hb.S hm hn).1.cell hc
  exact ⟨v, by simp [cW, e, asAddr, loadVar, yU ht, h2], h3⟩
 | @agg a b off n ty T cs cs' h ht hb hc hl =>
  have h1 := hs a
  rw [h.S] at h1
  obtain ⟨m, hm, hn, e⟩ := yH h1
  obtain ⟨vs, rest, q1, q2, q3⟩ := (hh.at hb.S hm hn).1
  have h4 := (q3.drop off).take n
  rw [hc] at h4
  have h5 : ((vs.drop off).take n).length = n := by rw [← h4.len]; exact hl
  obtain ⟨d, i, hd, hi, hrow, hsz⟩ := bE ht
  have hr := run_loadVar_mid (P := Try.prog) w m.g off ty ((vs.drop off).take n) d (fun j v hj => BlkM.cell (vs := vs ++ rest) q1 (off + j) (by
   rw [List.getElem?_take] at hj
   split at hj
   ·rw [List.getElem?_drop] at hj
    rw [List.getElem?_append_left (List.getElem?_eq_some_iff.1 hj).1]; exact hj
   ·cases hj)) hd hrow (by rw [hi, h5, ← hsz]; rfl)
  exact ⟨_, by simp [cW, e, asAddr, hr], _, rfl, h4⟩
inductive ResL (l : List (Nat × PV)) (g : List (Nat × Option Bk)) : List ResultVar → List E1 → Prop where
 | nil : ResL l g [] []
 | cons {r : ResultVar} {e : E1} {rs : List ResultVar} {es : List E1} (h : ResE l g r e) (hs : ResL l g rs es) : ResL l g (r :: rs) (e :: es)
def k04 : List E1 → PV
 | [e] => .e e
 | es => .tup es
theorem ResL.run {cx : Cx} {ρ : Rh} {w : World} {l : List (Nat × PV)} {g : List (Nat × Option Bk)} {tmps : Array Value} (hh : HRep cx ρ w (S g)) (hs : ∀ t, RepPV cx.p ρ w (S l t) (tmps.getD t undef)) {rs : List ResultVar} {es : List E1} (h : ResL l g rs es) : ∃ vs : List Value, (rs.mapM (cW tmps)).run Try.prog w = .ok vs w ∧ All2 (RepE cx.p ρ w) es vs := by
 induction h with
 | nil => exact ⟨[], rfl, trivial⟩
 | cons h hs' ih =>
  obtain ⟨v, h1, h2⟩ := h.run hh hs
  obtain ⟨vs, h3, h4⟩ := ih
  exact ⟨v :: vs, by simp [List.mapM_cons, h1, h3], h2, h4⟩
theorem hC {cx : Cx} {ρ : Rh} {w : World} {l : List (Nat × PV)} {g : List (Nat × Option Bk)} {tmps : Array Value} (hh : HRep cx ρ w (S g)) (hs : ∀ t, RepPV cx.p ρ w (S l t) (tmps.getD t undef)) {fn : Func} {es : List E1} (h : ResL l g fn.results.toList es) : ∃ v, (results fn tmps).run Try.prog w = .ok v w ∧ RepPV cx.p ρ w (k04 es) v := by
 obtain ⟨vs, h1, h2⟩ := h.run hh hs
 have e : (fn.results.mapM (cW tmps)).run Try.prog w = .ok vs.toArray w := by
  have e0 : fn.results = fn.results.toList.toArray := by simp
  rw [e0, List.mapM_toArray]
  simp [h1]
 have e2 : results fn tmps = (do let vs ← fn.results.mapM (cW tmps); pure (if h : vs.size = 1 then vs[0] else .tuple vs)) := by
  unfold results cW
  rfl
 rw [e2, Sem.run_bind, e]
 simp only [Result.andThen_ok, Sem.run_pure]
 match es, vs, h2 with
 | [], [], _ => exact ⟨_, rfl, [], by simp, trivial⟩
 | [e], [v], h2 => exact ⟨_, rfl, h2.1⟩
 | e1 :: e2 :: es, v1 :: v2 :: vs, h2 => exact ⟨_, rfl, _, by simp, h2⟩
/-! functions -/
def Fun (f : FuncId) (xs : List E1) (g0 : List (Nat × Option Bk)) (nx0 : Nat) (y : PV) (g1 : List (Nat × Option Bk)) (nx1 : Nat) : Prop :=
 ∀ (cx : Cx) (args : List Value), cx.n0 = nx0 → HRep cx cx.ρ0 cx.W (S g0) → All2 (RepE cx.p cx.ρ0 cx.W) xs args →
  Calls Try.prog f args.toArray cx.W fun e w' => ∃ v ρ', e = .returned v ∧ (∀ b m, cx.ρ0 b = some m → ρ' b = some m) ∧ (∀ b, nx1 ≤ b → ρ' b = none) ∧ HRep cx ρ' w' (S g1) ∧ Kept cx.W cx.may w' ∧ RepPV cx.p ρ' w' y v
def yE : Nat → List E1 → List (Nat × PV)
 | _, [] => []
 | k, x :: xs => (k, .e x) :: yE (k + 1) xs
theorem a9 : ∀ (xs : List E1) (k t : Nat) {p : Nat → Prop} {ρ : Rh} {w : World} {args : List Value}, All2 (RepE p ρ w) xs args → ∀ rest : List Value, RepPV p ρ w (S (yE k xs) (k + t)) ((args ++ rest).getD t undef)
 | [], k, t, p, ρ, w, args, h, rest => trivial
 | x :: xs, k, t, p, ρ, w, a :: args, h, rest => by
  cases t with
  | zero => simp [yE, Proofs.Ytkjmlililpgamaa.S]; exact h.1
  | succ t =>
   have := a9 xs (k + 1) t h.2 rest
   rw [show k + 1 + t = k + (t + 1) by omega] at this
   have e : S (yE k (x :: xs)) (k + (t + 1)) = S (yE (k + 1) xs) (k + (t + 1)) := by
    show S ((k, .e x) :: yE (k + 1) xs) _ = _
    unfold Proofs.Ytkjmlililpgamaa.S
    rw [List.lookup_cons, show (k + (t + 1) == k) = false by simp]
   rw [e]
   simpa using this
def EndP (n0 : Nat) (rs : List ResultVar) (y : PV) (g1 : List (Nat × Option Bk)) (nx1 : Nat) : qR := fun e s => (e = .normal ∨ e = .ret) ∧ ∃ es σ, ResL s.l s.g rs es ∧ aV σ y = k04 es ∧ eJ nx1 y = true ∧ RenG n0 σ s.g g1 nx1
def R3 (cx : Cx) (ρ' : Rh) (w' : World) (y : PV) (g1 : List (Nat × Option Bk)) (nx1 : Nat) (v : Value) : Prop := (∀ b m, cx.ρ0 b = some m → ρ' b = some m) ∧ (∀ b, nx1 ≤ b → ρ' b = none) ∧ HRep cx ρ' w' (S g1) ∧ Kept cx.W cx.may w' ∧ RepPV cx.p ρ' w' y v
theorem Fun.mk {f n nx0 nx1 : Nat} {fn : Func} {c : Code} {xs : List E1} {g0 g1 : List (Nat × Option Bk)} {y : PV} (hf : Try.prog.funcs[f]? = some fn) (hb : fn.body = some c) (hn : fn.ntmps = n) (hxn : xs.length ≤ n)
  (h : ∀ cx : Cx, cx.n0 = nx0 → AW cx n c (EndP nx0 fn.results.toList y g1 nx1) ⟨yE 0 xs, g0, nx0⟩) : Fun f xs g0 nx0 y g1 nx1 := by
 intro cx args hnx hh ha
 refine calls_of_wp hf hb ?_
 have hal : args.length = xs.length := ha.len.symm
 have hk0 : Kept cx.W cx.may cx.W := ⟨rfl, rfl, rfl, Nat.le_refl _, fun _ _ _ => rfl⟩
 refine wp_mono (h cx hnx _ cx.W ⟨cx.ρ0, hk0, hh, ?_, ?_, rfl, ?_, fun _ _ h => h⟩) ?_
 ·intro t
  have := a9 xs 0 t ha (List.replicate (fn.ntmps - args.length) undef)
  rw [Nat.zero_add] at this
  have e : (args.toArray ++ Array.replicate (fn.ntmps - args.toArray.size) undef).getD t undef = (args ++ List.replicate (fn.ntmps - args.length) undef).getD t undef := by
   have : args.toArray ++ Array.replicate (fn.ntmps - args.toArray.size) undef = (args ++ List.replicate (fn.ntmps - args.length) undef).toArray := by
    apply Array.ext'; simp
   rw [this]
   simp [Array.getD_eq_getD_getElem?, List.getD_eq_getElem?_getD]
  rw [e]; exact this
 ·simp [hn]; omega
 ·intro b hb
  cases hρ : cx.ρ0 b with
  | none => rfl
  | some m => have h1 := cx.hn0 b m hρ; have hb' : nx0 ≤ b := hb; omega
 ·rintro e a' w' ⟨s', ⟨he, es, σ, h4, h5, h6, h7⟩, ⟨ρ', k1, k2, k3, k4, k5, k6, k7⟩⟩
  obtain ⟨v, r1, r2⟩ := hC k2 k3 h4
  rw [← h5] at r2
  have hfin : R3 cx (wC σ nx1 ρ') w' y g1 nx1 v := ⟨fun b m hb => by
    have h8 := cx.hn0 b m hb
    have h9 := h7.low
    rw [uZ b (by omega), h7.fix b (by omega)]; exact k7 b m hb, fun b hb => by show (if b < nx1 then _ else _) = _; rw [if_neg (by omega)], k2.ren h7, k1, bW uZ (fun _ h => h) h6 r2⟩
  rcases he with rfl | rfl <;> exact ⟨k5, v, r1, v, _, rfl, hfin.1, hfin.2.1, hfin.2.2.1, hfin.2.2.2.1, hfin.2.2.2.2⟩
/-! calls -/
def nm (ps : List Nat) (nx b : Nat) : Nat := if b < ps.length then ps.getD b 0 else nx + (b - ps.length)
inductive EvA (l : List (Nat × PV)) : List Operand → List E1 → Prop where
 | nil : EvA l [] []
 | cons {x : Operand} {e : E1} {xs : List Operand} {es : List E1} (h : Ev l x (.e e)) (hs : EvA l xs es) : EvA l (x :: xs) (e :: es)
theorem EvA.rep {l : List (Nat × PV)} {xs : List Operand} {es : List E1} (h : EvA l xs es) {p : Nat → Prop} {ρ : Rh} {w : World} {ops : Array Operand} {a : Act} (hs : uP p ρ w l ops a) (hm : ∀ x ∈ xs, x ∈ ops.toList) : All2 (RepE p ρ w) es (xs.map a.eval) := by
 induction h with
 | nil => trivial
 | cons h hs' ih => exact ⟨h.rep hs (hm _ (List.mem_cons_self ..)), ih (fun x hx => hm x (List.mem_cons_of_mem _ hx))⟩
inductive PassC (g : List (Nat × Option Bk)) (ps : List Nat) (nx : Nat) (snap : Bool) (foot : List Nat) : C → C → Prop where
 | same {c c' : C} (hl : vJ ps.length c' = true) (hm : uO (nm ps nx) c' = c) : PassC g ps nx snap foot c c'
 | own {b off len s : Nat} {wh : Bool} {T : TypeId} {cs : List C} {ds : List D} (hs : snap = true) (hb : Look g b (some (T, cs))) (hp : ps.contains b = false) (hf : foot.contains b = true) (hd : (cs.drop off).take (len * s) = ds.map .d) (hl : ds.length = len * s) : PassC g ps nx snap foot (.own b off len s wh) (.d (.sl ds len))
 | nil : PassC g ps nx snap foot (.d (.lit vI)) (.d (.sl [] 0))
inductive PassE (g : List (Nat × Option Bk)) (ps : List Nat) (nx : Nat) (snap : Bool) (foot : List Nat) : E1 → E1 → Prop where
 | c {x y : C} (h : PassC g ps nx snap foot x y) : PassE g ps nx snap foot (.c x) (.c y)
 | agg {xs ys : List C} (h : All2 (PassC g ps nx snap foot) xs ys) : PassE g ps nx snap foot (.agg xs) (.agg ys)
def aU : C → Bool
 | .d (.lit _) => true
 | .d (.sl _ _) => false
 | .own .. => true
 | .ptr .. => true
 | .rp _ => false
 | .fn .. => true
def mB : E1 → Bool
 | .c x => aU x
 | .agg cs => cs.all aU
def c6 : PV → Bool
 | .e x => mB x
 | .tup l => l.all mB
 | .any => true
def eI (g : List (Nat × Option Bk)) : Bool := g.all fun x => match x.2 with
 | some (_, cs) => cs.all aU
 | none => true
theorem RepC.weak {p p' : Nat → Prop} {ρ : Rh} {w : World} (h : ∀ k, p k → p' k) {c : C} {v : Value} (hc : RepC p ρ w c v) : RepC p' ρ w c v := by
 cases hc with
 | d hd => exact .d (hd.mono (fun k hk => hk.imp (h k) id) (Nat.le_refl _) (fun _ _ _ => rfl))
 | own b off len s wh m cap hm hn h1 h2 h3 => exact .own _ off len s wh m cap hm hn h1 h2 h3
 | ownn b s m hm hn => exact .ownn _ s m hm hn
 | own0 b off s a cap hm ha => exact .own0 _ off s a cap hm ha
 | ptr b off m hm hn => exact .ptr _ off m hm hn
 | rp ds us b off hl hcc hr hp hb => exact .rp ds us b off hl hcc (fun i d u h1 h2 => (hr i d u h1 h2).mono (fun k hk => hk.imp (h k) id) (Nat.le_refl _) (fun _ _ _ => rfl)) (hp.imp (h b) id) hb
 | fn f qs us hq => exact .fn f qs us hq
theorem RepC.nosl {p p' : Nat → Prop} {ρ : Rh} {w : World} {c : C} {v : Value} (hsl : aU c = true) (hc : RepC p ρ w c v) : RepC p' ρ w c v := by
 cases hc with
 | d hd => cases hd with
  | lit v h => exact .d (.lit v h)
  | nil => cases hsl
  | sl => cases hsl
 | own b off len s wh m cap hm hnl h1 h2 h3 => exact .own _ off len s wh m cap hm hnl h1 h2 h3
 | ownn b s m hm hn => exact .ownn _ s m hm hn
 | own0 b off s a cap hm ha => exact .own0 _ off s a cap hm ha
 | ptr b off m hm hn => exact .ptr _ off m hm hn
 | fn f qs us hq => exact .fn f qs us hq
 | rp => cases hsl
theorem All2.impAll {α β : Type} {R R' : α → β → Prop} (q : α → Bool) (h : ∀ a b, q a = true → R a b → R' a b) : ∀ {xs : List α} {ys : List β}, xs.all q = true → All2 R xs ys → All2 R' xs ys
 | [], [], _, _ => trivial
 | _ :: _, _ :: _, hq, hh => by rw [List.all_cons, Bool.and_eq_true] at hq; exact ⟨h _ _ hq.1 hh.1, All2.impAll q h hq.2 hh.2⟩
theorem RepE.nosl {p p' : Nat → Prop} {ρ : Rh} {w : World} : ∀ {x : E1} {v : Value}, mB x = true → RepE p ρ w x v → RepE p' ρ w x v
 | .c _, _, hn, h => RepC.nosl hn h
 | .agg _, _, hn, ⟨us, e, h⟩ => ⟨us, e, h.impAll aU (fun _ _ hq => RepC.nosl hq) hn⟩
theorem RepPV.nosl {p p' : Nat → Prop} {ρ : Rh} {w : World} : ∀ {x : PV} {v : Value}, c6 x = true → RepPV p ρ w x v → RepPV p' ρ w x v
 | .e _, _, hn, h => RepE.nosl hn h
 | .tup _, _, hn, ⟨us, e, h⟩ => ⟨us, e, h.impAll mB (fun _ _ hq => RepE.nosl hq) hn⟩
 | .any, _, _, _ => trivial
theorem RepE.weak {p p' : Nat → Prop} {ρ : Rh} {w : World} (hp : ∀ k, p k → p' k) : ∀ {x : E1} {v : Value}, RepE p ρ w x v → RepE p' ρ w x v
 | .c _, _, h => RepC.weak hp h
 | .agg _, _, ⟨us, e, h⟩ => ⟨us, e, h.imp fun _ _ => RepC.weak hp⟩
theorem RepPV.weak {p p' : Nat → Prop} {ρ : Rh} {w : World} (hp : ∀ k, p k → p' k) : ∀ {x : PV} {v : Value}, RepPV p ρ w x v → RepPV p' ρ w x v
 | .e _, _, h => RepE.weak hp h
 | .tup _, _, ⟨us, e, h⟩ => ⟨us, e, h.imp fun _ _ => RepE.weak hp⟩
 | .any, _, _ => trivial
end Go.Proofs.Ytkjmlililpgamaa
