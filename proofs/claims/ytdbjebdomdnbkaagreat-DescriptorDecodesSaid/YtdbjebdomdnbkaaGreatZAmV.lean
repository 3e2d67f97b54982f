/- Merged texts. -/
import Derived.Test.YtdbjebdomdnbkaaGreatZAmJ
import Derived.LoopN
namespace Go.Proofs.YtdbjebdomdnbkaaGreat
open Go.ChangeShapes Go.WideShapes Go.ChangeAt Go.RowKit
set_option linter.unusedVariables false
set_option linter.unusedSimpArgs false
theorem fD (k : IntKind) (l : List Int) (i : Nat) (h : i < l.length) : (dI k l)[i]? = some (.lit (.int k (l.getD i 0))) := by
 unfold dI; simp [List.getD_eq_getElem?_getD, h]
theorem lQ (k : IntKind) (n : Nat) (x : Int) : List.replicate n (D.lit (.int k x)) = dI k (List.replicate n x) := by unfold dI; simp
theorem uK (k : IntKind) (l l' : List Int) : dI k l ++ dI k l' = dI k (l ++ l') := by unfold dI; simp
theorem k62 (k : IntKind) (l : List Int) (i : Nat) (x : Int) : wK (dI k l) i [.lit (.int k x)] = dI k (l.set i x) := by
 show (dI k l).set i _ = _
 unfold dI; rw [List.map_set]
theorem u0y (k : IntKind) (l : List Int) : (dI k l).all z9 = true := by unfold dI; rw [List.all_map]; exact List.all_eq_true.2 fun _ _ => rfl
theorem k63 (k : IntKind) (l m : List Int) (o n : Nat) : (dI k l).take o ++ (dI k m).take n ++ (dI k l).drop (o + n) = dI k (l.take o ++ m.take n ++ l.drop (o + n)) := by unfold dI; simp [List.map_take, List.map_drop]
theorem qV {cx : Cx} {n nx : Nat} {c : Code} {Q : yS} {s : ES} {l : List (Nat × PV)} {g : EH} (h1 : s.l = l) (h2 : s.g = g) (h3 : s.nx = nx) (h : AW cx n c Q ⟨l, kD g, nx⟩) : AW cx n c Q s.st := by subst h1; subst h2; subst h3; exact h
theorem Fun.y {f n0 n1 : Nat} {xs : List E1} {g0 g1 : List (Nat × Option Bk)} {y y' : PV} (h : Fun f xs g0 n0 y g1 n1) (e : y = y') : Fun f xs g0 n0 y' g1 n1 := e ▸ h
theorem Fun.cv {f n0 n1 : Nat} {xs : List E1} {g0 g1 g1' : List (Nat × Option Bk)} {y y' : PV} (h : Fun f xs g0 n0 y g1 n1) (e : y = y') (e2 : g1 = g1') : Fun f xs g0 n0 y' g1' n1 := e ▸ e2 ▸ h
theorem o8 {l : List Int} {a b : Int} (h : (l.all fun x => decide (a ≤ x ∧ x ≤ b)) = true) (i : Nat) (hi : i < l.length) : a ≤ List.getD l i 0 ∧ List.getD l i 0 ≤ b := by
 rw [List.getD_eq_getElem?_getD, List.getElem?_eq_getElem hi]
 exact of_decide_eq_true (List.all_eq_true.1 h _ (List.getElem_mem hi))
/-! short names for what a text says most -/
abbrev iD (x : Int) : D := .lit (.int .i64 x)
abbrev iC (x : Int) : C := .d (.lit (.int .i64 x))
abbrev iE (x : Int) : E1 := .c (.d (.lit (.int .i64 x)))
abbrev iV (x : Int) : PV := .e (.c (.d (.lit (.int .i64 x))))
abbrev oV (b off n s : Nat) : PV := .e (.c (.own b off n s true))
abbrev rV (b off : Nat) : PV := .e (.c (.ptr b off))
def AWr (cx : Cx) (n : Nat) (c : Code) (Q : yS) : Nat → St → Prop
 | 0, _ => False
 | k + 1, s => AW cx n c (iI (AWr cx n c Q k) Q) s
theorem AWr.s {cx : Cx} {n : Nat} {c : Code} {Q : yS} {k : Nat} {s : St} (h : AW cx n c (iI (AWr cx n c Q k) Q) s) : AWr cx n c Q (k + 1) s := h
theorem AWr.ok {cx : Cx} {n : Nat} {c : Code} {Q : yS} : ∀ {k : Nat} {s : St}, AWr cx n c Q k s → ∀ a w, Mod cx n s.l s.g s.nx a w → Code.rounds Tryz.prog c (fun e a' w' => ∃ s', Q e s' ∧ Mod cx n s'.l s'.g s'.nx a' w') k a w
 | 0, _, h, _, _, _ => h.elim
 | k + 1, s, h, a, w, hm => by
  refine wp_mono (h a w hm) ?_
  rintro e a' w' ⟨s', h1, h2⟩
  cases e with
  | normal => exact AWr.ok (k := k) h1 a' w' h2
  | _ => exact ⟨s', h1, h2⟩
theorem AW.rounds {cx : Cx} {n : Nat} {c : Code} {Q : yS} {s : St} (k : Nat) (h : AWr cx n c Q k s) : AW cx n (.loop c) Q s := fun a w hm => wp_loop_rounds k (h.ok a w hm)
theorem AWr.same {cx : Cx} {n n0 : Nat} {c : Code} {Q : yS} (hn : cx.n0 = n0) : ∀ {k : Nat} {s t : St}, k6q n0 s t → AWr cx n c Q k t → AWr cx n c Q k s
 | 0, _, _, _, h => h.elim
 | _ + 1, _, _, ⟨σ, h1, h2⟩, h => AW.ren σ n0 _ hn h1 h2 h
theorem AWr.join {cx : Cx} {n n0 k : Nat} {c : Code} {Q : yS} {s : St} (hn : cx.n0 = n0) (l : List (Nat × PV)) (g : EH) (nx : Nat) (h1 : AW cx n c (iI (Rd n0 (fun _ : Unit => (⟨l, g, nx⟩ : ES)) (fun _ => True)) Q) s) (h2 : AWr cx n c Q k ⟨l, kD g, nx⟩) : AWr cx n c Q (k + 1) s := by
 refine AWr.s (h1.mono ?_)
 intro e s' h
 cases e with
 | normal =>
  obtain ⟨_, hs, _⟩ := h
  exact AWr.same hn hs h2
 | _ => exact h
theorem Mod.adoptS {cx : Cx} {n nx : Nat} {l l' : List (Nat × PV)} {g : List (Nat × Option Bk)} {t s : Nat} {T2 : TypeId} (hc : l.lookup t = some (LV aV)) {a : Act} {w : World} (h : Mod cx n l g nx a w) : Mod cx n ((t, .e (.c (.own nx 0 0 s true))) :: l) ((nx, some (T2, [])) :: g) (nx + 1) a w := by
 obtain ⟨ρ, h1, h2, h3, h4, h5, h6, h9⟩ := h
 have hnx : ρ nx = none := h6 nx (Nat.le_refl _)
 have hgo : Goes cx.p ρ (ρ.set nx ⟨0, 0, true⟩) w w := by
  refine ⟨fun b m hb => ?_, fun _ h => h, Nat.le_refl _, fun _ _ _ => rfl⟩
  have : b ≠ nx := fun e => by rw [e, hnx] at hb; cases hb
  simp [this, hb]
 refine ⟨ρ.set nx ⟨0, 0, true⟩, h1, ⟨?_, ?_, ?_, h2.zm, h2.zl⟩, ?_, h4, h5, ?_, fun b m hb => hgo.ext _ _ (h9 b m hb)⟩
 ·intro x T' cs' hx
  unfold Proofs.YtdbjebdomdnbkaaGreat.S at hx
  rw [List.lookup_cons] at hx
  by_cases hxn : x = nx
  ·subst hxn
   simp at hx
   obtain ⟨rfl, rfl⟩ := hx
   exact ⟨⟨0, 0, true⟩, by simp, .inl ⟨rfl, rfl⟩⟩
  ·have hxn' : (x == nx) = false := by simpa using hxn
   simp only [hxn'] at hx
   obtain ⟨m', q1, q2⟩ := h2.row x T' cs' hx
   refine ⟨m', by simp [hxn, q1], ?_⟩
   rcases q2 with q2 | ⟨q2, q3, q4⟩
   ·exact .inl q2
   ·exact .inr ⟨q2, q3.mono hgo rfl, q4⟩
 ·have hlive : ∀ x, x ≠ nx → S ((nx, some (T2, ([] : List C))) :: g) x ≠ none → S g x ≠ none := by
   intro x hxn hx
   unfold Proofs.YtdbjebdomdnbkaaGreat.S at hx ⊢
   rw [List.lookup_cons] at hx
   simpa [show (x == nx) = false by simpa using hxn] using hx
  intro x x' m1 m2 hx hx' hm1 hm2 hn1 hn2 he
  by_cases hxn : x = nx
  ·subst hxn; simp at hm1; subst hm1; cases hn1
  ·by_cases hxn' : x' = nx
   ·subst hxn'; simp at hm2; subst hm2; cases hn2
   ·simp [hxn] at hm1; simp [hxn'] at hm2
    exact h2.inj x x' m1 m2 (hlive x hxn hx) (hlive x' hxn' hx') hm1 hm2 hn1 hn2 he
 ·have hlive : ∀ x, x ≠ nx → S ((nx, some (T2, ([] : List C))) :: g) x ≠ none → S g x ≠ none := by
   intro x hxn hx
   unfold Proofs.YtdbjebdomdnbkaaGreat.S at hx ⊢
   rw [List.lookup_cons] at hx
   simpa [show (x == nx) = false by simpa using hxn] using hx
  intro x m1 hx hm1 hn1
  by_cases hxn : x = nx
  ·subst hxn; simp at hm1; subst hm1; cases hn1
  ·simp [hxn] at hm1; exact h2.zf x m1 (hlive x hxn hx) hm1 hn1
 ·intro u
  unfold Proofs.YtdbjebdomdnbkaaGreat.S
  rw [List.lookup_cons]
  by_cases hu : u = t
  ·subst hu
   have h8 := h3 u
   rw [lD hc] at h8
   have h8 := qG h8
   simp only [beq_self_eq_true, Option.getD_some]
   rw [h8]
   exact .ownn nx s ⟨0, 0, true⟩ (by simp) rfl
  ·have hu' : (u == t) = false := by simpa using hu
   simp only [hu']
   exact (h3 u).mono hgo
 ·intro x hx
  have : x ≠ nx := by omega
  simp [this, h6 x (by omega)]
theorem AW.adoptS {cx : Cx} {n nx : Nat} {c : Code} {Q : yS} {l : List (Nat × PV)} {g : EH} (t s : Nat) (T2 : TypeId) (hc : l.lookup t = some (LV aV)) (h : AW cx n c Q ⟨(t, .e (.c (.own nx 0 0 s true))) :: l, kD ((nx, some (T2, .ds [])) :: g), nx + 1⟩) : AW cx n c Q ⟨l, kD g, nx⟩ := fun a w hm => h a w (hm.adoptS (l' := l) hc)
theorem cQ {cx : Cx} {n nx : Nat} {c : Code} {Q : yS} {l : List (Nat × PV)} {g : EH} (b i s : Nat) (T2 : TypeId) {T : TypeId} {bc : BC} {cs' : List C} (hb : g.lookup b = some (some (T, bc))) (hc : bc.to[i]? = some (LC aV)) (hs : bc.to.set i (.own nx 0 0 s true) = cs') (h : AW cx n c Q ⟨l, kD ((b, some (T, .cs cs')) :: (nx, some (T2, .ds [])) :: g), nx + 1⟩) : AW cx n c Q ⟨l, kD g, nx⟩ :=
 AW.adopt (b := b) (i := i) (s := s) T2 (qZ hb) hc hs h
end Go.Proofs.YtdbjebdomdnbkaaGreat
namespace Go.Proofs.YtdbjebdomdnbkaaGreat
open Go.ChangeShapes Go.WideShapes Go.ChangeAt Go.RowKit
set_option linter.unusedVariables false
set_option linter.unusedSimpArgs false
inductive FzC (b : Nat) (ds : List D) : C → C → Prop where
 | same (c : C) : FzC b ds c c
 | own (off len s : Nat) (wh : Bool) {ds' : List D} (hd : (ds.drop off).take (len * s) = ds') (hl : ds'.length = len * s) : FzC b ds (.own b off len s wh) (.d (.sl ds' len))
inductive FzE (b : Nat) (ds : List D) : E1 → E1 → Prop where
 | c {x y : C} (h : FzC b ds x y) : FzE b ds (.c x) (.c y)
 | agg {xs ys : List C} (h : All2 (FzC b ds) xs ys) : FzE b ds (.agg xs) (.agg ys)
inductive FzPV (b : Nat) (ds : List D) : PV → PV → Prop where
 | e {x y : E1} (h : FzE b ds x y) : FzPV b ds (.e x) (.e y)
 | tup {xs ys : List E1} (h : All2 (FzE b ds) xs ys) : FzPV b ds (.tup xs) (.tup ys)
 | same (x : PV) : FzPV b ds x x
def Rh.freeze (ρ : Rh) (g : Nat) : Rh := ⟨ρ.f, fun k => ρ.z k ∨ k = g⟩
@[simp] theorem u17 (ρ : Rh) (g b : Nat) : (ρ.freeze g) b = ρ b := rfl
theorem lL {p : Nat → Prop} {ρ : Rh} {w : World} (g : Nat) : Goes p ρ (ρ.freeze g) w w := ⟨fun _ _ h => h, fun _ h => .inl h, Nat.le_refl _, fun _ _ _ => rfl⟩
theorem FzC.rep {p : Nat → Prop} {ρ ρ' : Rh} {w : World} {b : Nat} {ds : List D} {m : Nm} {T : TypeId} (hgo : Goes p ρ ρ' w w) (hz : m.nl = false → ρ'.z m.g) (hm : ρ b = some m) (hr : (m.nl = true ∧ ds = []) ∨ (m.nl = false ∧ Row p ρ w m T (ds.map .d))) {x y : C} (h : FzC b ds x y) {v : Value} (hc : RepC p ρ w x v) : RepC p ρ' w y v := by
 cases h with
 | same => exact hc.mono hgo
 | @own off len s wh ds' hd hl =>
  by_cases h0 : len = 0
  ·subst h0
   have hnil := List.eq_nil_of_length_eq_zero (hl.trans (Nat.zero_mul s))
   subst hnil
   cases hc with
   | own _ _ _ _ _ m2 cap k1 k2 k3 k4 k5 => exact .d (.nil _ cap k4 (fun h => by cases h))
   | ownn _ _ m2 k1 k2 => exact .d (.nil none 0 (Nat.zero_le _) (fun _ => rfl))
   | own0 _ _ _ a cap k1 k2 => exact .d (.nil a cap k1 k2)
  ·obtain ⟨m2, cap, k1, k2, rfl, k3, k4, k5⟩ := bT (by omega) (v := v) (show RepPV p ρ w (.e (.c (.own b off len s wh))) v from hc)
   rw [hm] at k1; cases k1
   rcases hr with ⟨hr, _⟩ | ⟨_, vs, rest, r1, r2, r3⟩
   ·rw [k2] at hr; cases hr
   have h4 := (r3.drop off).take (len * s)
   rw [← List.map_drop, ← List.map_take, hd] at h4
   have hlen : ((vs.drop off).take (len * s)).length = ds'.length := by rw [← h4.len]; simp
   refine .d (.sl ds' ((vs.drop off).take (len * s)) m.g off len cap hlen ?_ ?_ (.inr (hz k2)) r1.lt k3 k4)
   ·intro i u hu
    rw [List.getElem?_take] at hu
    split at hu
    ·rw [List.getElem?_drop] at hu
     exact BlkM.cell (vs := vs ++ rest) r1 (off + i) (by rw [List.getElem?_append_left (List.getElem?_eq_some_iff.1 hu).1]; exact hu)
    ·cases hu
   ·intro i d u hd' hu
    have := h4.get i (.d d) u (by rw [List.getElem?_map, hd']; rfl) hu
    cases this with
    | d h => exact h.mono hgo.pz (Nat.le_refl _) (fun _ _ _ => rfl)
theorem FzE.rep {p : Nat → Prop} {ρ ρ' : Rh} {w : World} {b : Nat} {ds : List D} {m : Nm} {T : TypeId} (hgo : Goes p ρ ρ' w w) (hz : m.nl = false → ρ'.z m.g) (hm : ρ b = some m) (hr : (m.nl = true ∧ ds = []) ∨ (m.nl = false ∧ Row p ρ w m T (ds.map .d))) {x y : E1} (h : FzE b ds x y) {v : Value} (hc : RepE p ρ w x v) : RepE p ρ' w y v := by
 cases h with
 | c h => exact h.rep hgo hz hm hr hc
 | agg h => obtain ⟨us, e, h2⟩ := hc; exact ⟨us, e, uZ (R := FzC b ds) (T := RepC p ρ w) (U := RepC p ρ' w) (fun _ _ _ h3 h4 => h3.rep hgo hz hm hr h4) h h2⟩
theorem FzPV.rep {p : Nat → Prop} {ρ ρ' : Rh} {w : World} {b : Nat} {ds : List D} {m : Nm} {T : TypeId} (hgo : Goes p ρ ρ' w w) (hz : m.nl = false → ρ'.z m.g) (hm : ρ b = some m) (hr : (m.nl = true ∧ ds = []) ∨ (m.nl = false ∧ Row p ρ w m T (ds.map .d))) {x y : PV} (h : FzPV b ds x y) {v : Value} (hc : RepPV p ρ w x v) : RepPV p ρ' w y v := by
 cases h with
 | e h => exact h.rep hgo hz hm hr hc
 | tup h => obtain ⟨us, e, h2⟩ := hc; exact ⟨us, e, uZ (R := FzE b ds) (T := RepE p ρ w) (U := RepE p ρ' w) (fun _ _ _ h3 h4 => h3.rep hgo hz hm hr h4) h h2⟩
 | same => exact hc.mono hgo
def FzS (b : Nat) (ds : List D) (l : List (Nat × PV)) : List (Nat × PV) → Prop
 | [] => True
 | (t, u) :: l2 => (∃ v, Look l t v ∧ FzPV b ds v u) ∧ FzS b ds l l2
theorem FzS.get {b : Nat} {ds : List D} {l : List (Nat × PV)} : ∀ {l2 : List (Nat × PV)}, FzS b ds l l2 → ∀ x ∈ l2, ∃ v, Look l x.1 v ∧ FzPV b ds v x.2
 | (t, u) :: l2, h, x, hx => by
  rcases List.mem_cons.1 hx with rfl | hx
  ·exact h.1
  ·exact FzS.get h.2 x hx
def FzG (b : Nat) (ds : List D) (g : List (Nat × Option Bk)) : List (Nat × Option Bk) → Prop
 | [] => True
 | (x, o) :: g2 => (∀ T cs', o = some (T, cs') → x ≠ b ∧ ∃ cs, Look g x (some (T, cs)) ∧ All2 (FzC b ds) cs cs') ∧ FzG b ds g g2
theorem FzG.get {b : Nat} {ds : List D} {g : List (Nat × Option Bk)} : ∀ {g2 : List (Nat × Option Bk)}, FzG b ds g g2 → ∀ x ∈ g2, ∀ T cs', x.2 = some (T, cs') → x.1 ≠ b ∧ ∃ cs, Look g x.1 (some (T, cs)) ∧ All2 (FzC b ds) cs cs'
 | (t, u) :: l2, h, x, hx => by
  rcases List.mem_cons.1 hx with rfl | hx
  ·exact h.1
  ·exact FzG.get h.2 x hx
theorem Mod.freeze {cx : Cx} {n nx b : Nat} {l l' : List (Nat × PV)} {g g' : List (Nat × Option Bk)} {T : TypeId} {ds : List D} (hb : Look g b (some (T, ds.map .d))) (hs : FzS b ds l l') (hg : FzG b ds g g') {a : Act} {w : World} (h : Mod cx n l g nx a w) : Mod cx n l' g' nx a w := by
 obtain ⟨ρ, h1, h2, h3, h4, h5, h6, h9⟩ := h
 obtain ⟨m, k1, k2⟩ := h2.row b T _ hb.S
 have hr : (m.nl = true ∧ ds = []) ∨ (m.nl = false ∧ Row cx.p ρ w m T (ds.map .d)) := k2.imp (fun k => ⟨k.1, List.map_eq_nil_iff.1 k.2⟩) (fun k => ⟨k.1, k.2.1⟩)
 obtain ⟨ρ', hgo, hf, hz, hzb⟩ : ∃ ρ' : Rh, Goes cx.p ρ ρ' w w ∧ (∀ x, ρ' x = ρ x) ∧ (m.nl = false → ρ'.z m.g) ∧ (∀ k, ρ'.z k → ρ.z k ∨ (m.nl = false ∧ k = m.g)) := by
  cases hn : m.nl with
  | true => exact ⟨ρ, Goes.refl _ _ _, fun _ => rfl, fun h => (by cases h), fun k h => .inl h⟩
  | false => exact ⟨ρ.freeze m.g, lL _, fun _ => rfl, fun _ => .inr rfl, fun k h => h.imp id (fun h => ⟨rfl, h⟩)⟩
 have hgl : ∀ x T' cs', S g' x = some (T', cs') → x ≠ b ∧ ∃ cs, S g x = some (T', cs) ∧ All2 (FzC b ds) cs cs' := by
  intro x T' cs' hx
  unfold Proofs.YtdbjebdomdnbkaaGreat.S at hx
  cases hl : g'.lookup x with
  | none => rw [hl] at hx; cases hx
  | some o =>
   rw [hl] at hx; simp at hx; subst hx
   obtain ⟨q1, cs, q2, q3⟩ := hg.get _ (yE hl) T' cs' rfl
   exact ⟨q1, cs, q2.S, q3⟩
 have hlive : ∀ x, S g' x ≠ none → x ≠ b ∧ S g x ≠ none := by
  intro x hx
  obtain ⟨⟨T', cs'⟩, e⟩ := Option.ne_none_iff_exists'.1 hx
  obtain ⟨q1, cs, q2, _⟩ := hgl x T' cs' e
  exact ⟨q1, by rw [q2]; simp⟩
 refine ⟨ρ', h1, ⟨?_, ?_, ?_, ?_, ?_⟩, ?_, h4, h5, fun x hx => by rw [hf]; exact h6 x hx, fun x m hx => by rw [hf]; exact h9 x m hx⟩
 ·intro x T' cs' hx
  obtain ⟨q1, cs, q2, q3⟩ := hgl x T' cs' hx
  obtain ⟨m', p1, p2⟩ := h2.row x T' cs q2
  refine ⟨m', by rw [hf]; exact p1, ?_⟩
  rcases p2 with ⟨p2, p3⟩ | ⟨p2, ⟨vs, rest, r1, r2, r3⟩, p4⟩
  ·subst p3
   cases cs' with
   | nil => exact .inl ⟨p2, rfl⟩
   | cons _ _ => cases q3
  ·exact .inr ⟨p2, ⟨vs, rest, r1, r2, uZ (R := FzC b ds) (T := RepC cx.p ρ w) (U := RepC cx.p ρ' w) (fun _ _ _ h3 h4 => h3.rep hgo hz k1 hr h4) q3 r3⟩, p4⟩
 ·intro x x' m1 m2 hx hx' hm1 hm2 hn1 hn2 he
  rw [hf] at hm1 hm2
  exact h2.inj x x' m1 m2 (hlive x hx).2 (hlive x' hx').2 hm1 hm2 hn1 hn2 he
 ·intro x m1 hx hm1 hn1 hzz
  rw [hf] at hm1
  rcases hzb _ hzz with hz' | ⟨hn, hz'⟩
  ·exact h2.zf x m1 (hlive x hx).2 hm1 hn1 hz'
  ·exact (hlive x hx).1 (h2.inj x b m1 m (hlive x hx).2 (by rw [hb.S]; simp) hm1 k1 hn1 hn hz')
 ·intro k hk
  rcases hzb k hk with hz' | ⟨hn, rfl⟩
  ·exact h2.zm k hz'
  ·rcases k2 with ⟨k2, _⟩ | ⟨_, _, k4⟩
   ·rw [hn] at k2; cases k2
   ·exact k4
 ·intro k hk
  rcases hzb k hk with hz' | ⟨hn, rfl⟩
  ·exact h2.zl k hz'
  ·rcases k2 with ⟨k2, _⟩ | ⟨_, k3, _⟩
   ·rw [hn] at k2; cases k2
   ·exact k3.lt
 ·intro t
  unfold Proofs.YtdbjebdomdnbkaaGreat.S
  cases hl : l'.lookup t with
  | none => exact trivial
  | some u =>
   obtain ⟨v, q1, q2⟩ := hs.get _ (yE hl)
   have := h3 t
   rw [q1.S] at this
   exact q2.rep hgo hz k1 hr this
theorem AW.freeze {cx : Cx} {n nx : Nat} {c : Code} {Q : yS} {l l' : List (Nat × PV)} {g g' : EH} (b : Nat) {T : TypeId} {ds : List D} (hb : g.lookup b = some (some (T, .ds ds))) (hs : FzS b ds l l') (hg : FzG b ds (kD g) (kD g')) (h : AW cx n c Q ⟨l', kD g', nx⟩) : AW cx n c Q ⟨l, kD g, nx⟩ :=
 fun a w hm => h a w (hm.freeze (qZ hb) hs hg)
theorem FzS.nil {b : Nat} {ds : List D} {l : List (Nat × PV)} : FzS b ds l [] := trivial
theorem FzS.cons {b t : Nat} {ds : List D} {l l2 : List (Nat × PV)} {u v : PV} (hl : l.lookup t = some v) (h : FzPV b ds v u) (hs : FzS b ds l l2) : FzS b ds l ((t, u) :: l2) := ⟨⟨v, yT hl, h⟩, hs⟩
theorem All2.same {b : Nat} {ds : List D} : ∀ cs : List C, All2 (FzC b ds) cs cs
 | [] => trivial
 | c :: cs => ⟨.same c, All2.same cs⟩
theorem FzL.nil {b : Nat} {ds : List D} : All2 (FzC b ds) [] [] := trivial
theorem FzL.cons {b : Nat} {ds : List D} {x y : C} {xs ys : List C} (h : FzC b ds x y) (hs : All2 (FzC b ds) xs ys) : All2 (FzC b ds) (x :: xs) (y :: ys) := ⟨h, hs⟩
theorem FzG.nil {b : Nat} {ds : List D} {g : EH} : FzG b ds (kD g) (kD []) := trivial
theorem qF {b x : Nat} {ds : List D} {g g2 : EH} {T : TypeId} {bc : BC} (hne : (x == b) = false) (hl : g.lookup x = some (some (T, bc))) (hg : FzG b ds (kD g) (kD g2)) : FzG b ds (kD g) (kD ((x, some (T, bc)) :: g2)) := by
 refine ⟨fun T' cs' h => ?_, hg⟩
 cases h
 exact ⟨by simpa using hne, bc.to, qZ hl, All2.same _⟩
theorem FzG.to {b x : Nat} {ds : List D} {g g2 : EH} {T : TypeId} {bc bc' : BC} (hne : (x == b) = false) (hl : g.lookup x = some (some (T, bc))) (h : All2 (FzC b ds) bc.to bc'.to) (hg : FzG b ds (kD g) (kD g2)) : FzG b ds (kD g) (kD ((x, some (T, bc')) :: g2)) := by
 refine ⟨fun T' cs' h9 => ?_, hg⟩
 cases h9
 exact ⟨by simpa using hne, bc.to, qZ hl, h⟩
end Go.Proofs.YtdbjebdomdnbkaaGreat
namespace Go.Proofs.YtdbjebdomdnbkaaGreat
open Go.ChangeShapes Go.WideShapes Go.ChangeAt Go.RowKit
set_option linter.unusedVariables false
abbrev sV (k : IntKind) (l : List Int) (n : Nat) : PV := .e (.c (.d (.sl (dI k l) n)))
abbrev nV : PV := .e (.c (.d (.lit (.slice none 0 0))))
abbrev bV (b : Bool) : PV := .e (.c (.d (.lit (.bool b))))
theorem Fun.walk {f : Nat} {xs : List E1} (h : Fun f xs [] 0 (LV (.bool true)) [] 0) {w : World} {args : List Value} (ha : All2 (RepE (fun k => k < w.heap.size) Rh.no w) xs args) (hgl : GlOK (fun k => k < w.heap.size) w := by intro q hq; cases hq) :
  Calls Tryz.prog f args.toArray w fun e w' => e = .returned (.bool true) ∧ Below w.heap.size w w' := by
 have h0 : HRep ⟨fun k => k < w.heap.size, w, fun k => w.heap.size ≤ k, fun k h => by omega, fun k h => h, fun k h => h, Rh.no, 0, (fun b m h => by cases h), hgl⟩ Rh.no w (S []) :=
  ⟨fun b T cs hb => (by cases hb), fun b b' m m' hb => absurd rfl hb, fun b m hb => absurd rfl hb, fun k h => False.elim h, fun k h => False.elim h⟩
 refine (h ⟨fun k => k < w.heap.size, w, fun k => w.heap.size ≤ k, fun k h => by omega, fun k h => h, fun k h => h, Rh.no, 0, (fun b m h => by cases h), hgl⟩ args rfl h0 ha).mono ?_
 rintro e w' ⟨v, ρ', rfl, _, _, _, hk, hv⟩
 refine ⟨?_, ⟨hk.os, hk.tape, hk.output, hk.size, fun k hlt => hk.block k hlt (by show ¬ w.heap.size ≤ k; omega)⟩⟩
 have hv : RepC _ ρ' w' (.d (.lit (.bool true))) v := hv
 cases hv with
 | d h => cases h; rfl
theorem zV {k : IntKind} {w : World} {a : Option Addr} {len cap : Nat} {l : List Int} (h : Sl k w a len cap l) : RepE (fun k => k < w.heap.size) Rh.no w (.c (.d (.sl (dI k l) l.length))) (.slice a len cap) := by
 obtain ⟨h1, h2, h3, h4, h5, h6⟩ := h
 refine RepC.d ?_
 rcases h6 with h6 | ⟨b, off, rfl, hlt, hc⟩
 ·obtain rfl : l = [] := List.eq_nil_of_length_eq_zero (by omega)
  subst h6
  exact .nil a cap h3 h5
 ·subst h1
  refine .sl (dI k l) (l.map fun x => .int k x) b off l.length cap (by simp [dI]) ?_ ?_ (.inl hlt) hlt h2 h3
  ·intro i u hu
   have hi : i < l.length := by
    have := (List.getElem?_eq_some_iff.1 hu).1
    simpa using this
   have e : u = .int k (l.getD i 0) := by
    simp [hi] at hu
    subst hu
    simp [List.getD_eq_getElem?_getD, hi]
   rw [e]
   exact hc i hi
  ·intro i d u hd hu
   simp [dI] at hd hu
   obtain ⟨x, hx, rfl⟩ := hd
   obtain ⟨y, hy, rfl⟩ := hu
   rw [hx] at hy
   cases hy
   exact .lit _ rfl
theorem jZ {w : World} {v : Value} (h : v.oneCell' = true) : RepE (fun k => k < w.heap.size) Rh.no w (.c (LC v)) v := RepC.d (.lit v h)
theorem Sl.wf {k : IntKind} {w : World} {a : Option Addr} {len cap : Nat} {l : List Int} (h : Sl k w a len cap l) : ∀ n ∈ l, (Lit.int k n).wf = true := h.2.2.2.1
end Go.Proofs.YtdbjebdomdnbkaaGreat
namespace Go.Proofs.YtdbjebdomdnbkaaGreat
open Go.ChangeShapes Go.WideShapes Go.ChangeAt Go.RowKit
set_option linter.unusedVariables false
set_option linter.unusedSimpArgs false
theorem HRep.freeze {cx : Cx} {ρ : Rh} {w : World} {b : Nat} {g g' : List (Nat × Option Bk)} {T : TypeId} {ds : List D} (hb : Look g b (some (T, ds.map .d))) (hg : FzG b ds g g') (h2 : HRep cx ρ w (S g)) :
  ∃ ρ' : Rh, (∀ x, ρ' x = ρ x) ∧ HRep cx ρ' w (S g') ∧ ∀ (u u' : PV) (v : Value), FzPV b ds u u' → RepPV cx.p ρ w u v → RepPV cx.p ρ' w u' v := by
 obtain ⟨m, k1, k2⟩ := h2.row b T _ hb.S
 have hr : (m.nl = true ∧ ds = []) ∨ (m.nl = false ∧ Row cx.p ρ w m T (ds.map .d)) := k2.imp (fun k => ⟨k.1, List.map_eq_nil_iff.1 k.2⟩) (fun k => ⟨k.1, k.2.1⟩)
 obtain ⟨ρ', hgo, hf, hz, hzb⟩ : ∃ ρ' : Rh, Goes cx.p ρ ρ' w w ∧ (∀ x, ρ' x = ρ x) ∧ (m.nl = false → ρ'.z m.g) ∧ (∀ k, ρ'.z k → ρ.z k ∨ (m.nl = false ∧ k = m.g)) := by
  cases hn : m.nl with
  | true => exact ⟨ρ, Goes.refl _ _ _, fun _ => rfl, fun h => (by cases h), fun k h => .inl h⟩
  | false => exact ⟨ρ.freeze m.g, lL _, fun _ => rfl, fun _ => .inr rfl, fun k h => h.imp id (fun h => ⟨rfl, h⟩)⟩
 have hgl : ∀ x T' cs', S g' x = some (T', cs') → x ≠ b ∧ ∃ cs, S g x = some (T', cs) ∧ All2 (FzC b ds) cs cs' := by
  intro x T' cs' hx
  unfold Proofs.YtdbjebdomdnbkaaGreat.S at hx
  cases hl : g'.lookup x with
  | none => rw [hl] at hx; cases hx
  | some o =>
   rw [hl] at hx; simp at hx; subst hx
   obtain ⟨q1, cs, q2, q3⟩ := hg.get _ (yE hl) T' cs' rfl
   exact ⟨q1, cs, q2.S, q3⟩
 have hlive : ∀ x, S g' x ≠ none → x ≠ b ∧ S g x ≠ none := by
  intro x hx
  obtain ⟨⟨T', cs'⟩, e⟩ := Option.ne_none_iff_exists'.1 hx
  obtain ⟨q1, cs, q2, _⟩ := hgl x T' cs' e
  exact ⟨q1, by rw [q2]; simp⟩
 refine ⟨ρ', hf, ⟨?_, ?_, ?_, ?_, ?_⟩, fun u u' v q1 q2 => q1.rep hgo hz k1 hr q2⟩
 ·intro x T' cs' hx
  obtain ⟨q1, cs, q2, q3⟩ := hgl x T' cs' hx
  obtain ⟨m', p1, p2⟩ := h2.row x T' cs q2
  refine ⟨m', by rw [hf]; exact p1, ?_⟩
  rcases p2 with ⟨p2, p3⟩ | ⟨p2, ⟨vs, rest, r1, r2, r3⟩, p4⟩
  ·subst p3
   cases cs' with
   | nil => exact .inl ⟨p2, rfl⟩
   | cons _ _ => cases q3
  ·exact .inr ⟨p2, ⟨vs, rest, r1, r2, uZ (R := FzC b ds) (T := RepC cx.p ρ w) (U := RepC cx.p ρ' w) (fun _ _ _ h3 h4 => h3.rep hgo hz k1 hr h4) q3 r3⟩, p4⟩
 ·intro x x' m1 m2 hx hx' hm1 hm2 hn1 hn2 he
  rw [hf] at hm1 hm2
  exact h2.inj x x' m1 m2 (hlive x hx).2 (hlive x' hx').2 hm1 hm2 hn1 hn2 he
 ·intro x m1 hx hm1 hn1 hzz
  rw [hf] at hm1
  rcases hzb _ hzz with hz' | ⟨hn, hz'⟩
  ·exact h2.zf x m1 (hlive x hx).2 hm1 hn1 hz'
  ·exact (hlive x hx).1 (h2.inj x b m1 m (hlive x hx).2 (by rw [hb.S]; simp) hm1 k1 hn1 hn hz')
 ·intro k hk
  rcases hzb k hk with hz' | ⟨hn, rfl⟩
  ·exact h2.zm k hz'
  ·rcases k2 with ⟨k2, _⟩ | ⟨_, _, k4⟩
   ·rw [hn] at k2; cases k2
   ·exact k4
 ·intro k hk
  rcases hzb k hk with hz' | ⟨hn, rfl⟩
  ·exact h2.zl k hz'
  ·rcases k2 with ⟨k2, _⟩ | ⟨_, k3, _⟩
   ·rw [hn] at k2; cases k2
   ·exact k3.lt
theorem Fun.frz {f : FuncId} {xs : List E1} {g0 : List (Nat × Option Bk)} {g1 g1' : EH} {n0 n1 : Nat} {y y' : PV} (b : Nat) {T : TypeId} {ds : List D} (h : Fun f xs g0 n0 y (kD g1) n1) (hb : g1.lookup b = some (some (T, .ds ds))) (hg : FzG b ds (kD g1) (kD g1')) (hy : FzPV b ds y y') : Fun f xs g0 n0 y' (kD g1') n1 := by
 intro cx args hn hh ha
 refine (h cx args hn hh ha).mono ?_
 rintro e w' ⟨v, ρ', rfl, h1, h2, h3, h4, h5⟩
 obtain ⟨ρ2, q1, q2, q3⟩ := HRep.freeze (qZ hb) hg h3
 exact ⟨v, ρ2, rfl, fun b m hb => by rw [q1]; exact h1 b m hb, fun b hb => by rw [q1]; exact h2 b hb, q2, h4, q3 _ _ _ hy h5⟩
inductive NlC : C → C → Prop where
 | same (c : C) : NlC c c
 | nil : NlC (.d (.lit (.slice none 0 0))) (.d (.sl [] 0))
inductive NlE : E1 → E1 → Prop where
 | same (x : E1) : NlE x x
 | c {x y : C} (h : NlC x y) : NlE (.c x) (.c y)
 | agg {xs ys : List C} (h : All2 NlC xs ys) : NlE (.agg xs) (.agg ys)
inductive NlPV : PV → PV → Prop where
 | e {x y : E1} (h : NlE x y) : NlPV (.e x) (.e y)
 | tup {xs ys : List E1} (h : All2 NlE xs ys) : NlPV (.tup xs) (.tup ys)
 | same (x : PV) : NlPV x x
theorem NlC.rep {p : Nat → Prop} {ρ : Rh} {w : World} {x y : C} (h : NlC x y) {v : Value} (hc : RepC p ρ w x v) : RepC p ρ w y v := by
 cases h with
 | same => exact hc
 | nil =>
  cases hc with
  | d h => cases h with
   | lit v h => exact .d (.nil none 0 (Nat.zero_le _) (fun _ => rfl))
theorem NlE.rep {p : Nat → Prop} {ρ : Rh} {w : World} {x y : E1} (h : NlE x y) {v : Value} (hc : RepE p ρ w x v) : RepE p ρ w y v := by
 cases h with
 | same => exact hc
 | c h => exact h.rep hc
 | agg h => obtain ⟨us, e, h2⟩ := hc; exact ⟨us, e, uZ (R := NlC) (T := RepC p ρ w) (U := RepC p ρ w) (fun _ _ _ h3 h4 => h3.rep h4) h h2⟩
theorem NlPV.rep {p : Nat → Prop} {ρ : Rh} {w : World} {x y : PV} (h : NlPV x y) {v : Value} (hc : RepPV p ρ w x v) : RepPV p ρ w y v := by
 cases h with
 | e h => exact h.rep hc
 | tup h => obtain ⟨us, e, h2⟩ := hc; exact ⟨us, e, uZ (R := NlE) (T := RepE p ρ w) (U := RepE p ρ w) (fun _ _ _ h3 h4 => h3.rep h4) h h2⟩
 | same => exact hc
theorem Fun.rel {f : FuncId} {xs : List E1} {g0 g1 : List (Nat × Option Bk)} {n0 n1 : Nat} {y y' : PV} (h : Fun f xs g0 n0 y g1 n1) (hy : NlPV y y') : Fun f xs g0 n0 y' g1 n1 := by
 intro cx args hn hh ha
 refine (h cx args hn hh ha).mono ?_
 rintro e w' ⟨v, ρ', rfl, h1, h2, h3, h4, h5⟩
 exact ⟨v, ρ', rfl, h1, h2, h3, h4, hy.rep h5⟩
theorem FzC.wh {b n : Nat} {k : IntKind} {l : List Int} {wh : Bool} (h : List.length l = n) : FzC b (dI k l) (.own b 0 n 1 wh) (.d (.sl (dI k l) n)) :=
 .own 0 n 1 wh (by rw [List.drop_zero, Nat.mul_one, List.take_of_length_le (by rw [uF]; omega)]) (by rw [uF]; omega)
theorem FzG.skip {b x : Nat} {ds : List D} {g g2 : EH} (hg : FzG b ds (kD g) (kD g2)) : FzG b ds (kD g) (kD ((x, none) :: g2)) := ⟨fun T cs' h => (by cases h), hg⟩
def NlS (l : List (Nat × PV)) : List (Nat × PV) → Prop
 | [] => True
 | (t, u) :: l2 => (∃ v, Look l t v ∧ NlPV v u) ∧ NlS l l2
theorem NlS.get {l : List (Nat × PV)} : ∀ {l2 : List (Nat × PV)}, NlS l l2 → ∀ x ∈ l2, ∃ v, Look l x.1 v ∧ NlPV v x.2
 | (t, u) :: l2, h, x, hx => by
  rcases List.mem_cons.1 hx with rfl | hx
  ·exact h.1
  ·exact NlS.get h.2 x hx
def NlG (g : List (Nat × Option Bk)) : List (Nat × Option Bk) → Prop
 | [] => True
 | (x, o) :: g2 => (∀ T cs', o = some (T, cs') → ∃ cs, Look g x (some (T, cs)) ∧ All2 NlC cs cs') ∧ NlG g g2
theorem NlG.get {g : List (Nat × Option Bk)} : ∀ {g2 : List (Nat × Option Bk)}, NlG g g2 → ∀ x ∈ g2, ∀ T cs', x.2 = some (T, cs') → ∃ cs, Look g x.1 (some (T, cs)) ∧ All2 NlC cs cs'
 | (t, u) :: l2, h, x, hx => by
  rcases List.mem_cons.1 hx with rfl | hx
  ·exact h.1
  ·exact NlG.get h.2 x hx
theorem y6 {cx : Cx} {n nx : Nat} {c : Code} {Q : yS} {l l' : List (Nat × PV)} {g g' : EH} (hs : NlS l l') (hg : NlG (kD g) (kD g')) (h : AW cx n c Q ⟨l', kD g', nx⟩) : AW cx n c Q ⟨l, kD g, nx⟩ := by
 intro a w hm
 refine h a w ?_
 obtain ⟨ρ, h1, h2, h3, h4, h5, h6, h9⟩ := hm
 have hgl : ∀ x T' cs', S (kD g') x = some (T', cs') → ∃ cs, S (kD g) x = some (T', cs) ∧ All2 NlC cs cs' := by
  intro x T' cs' hx
  unfold Proofs.YtdbjebdomdnbkaaGreat.S at hx
  cases hl : (kD g').lookup x with
  | none => rw [hl] at hx; cases hx
  | some o =>
   rw [hl] at hx; simp at hx; subst hx
   obtain ⟨cs, q2, q3⟩ := hg.get _ (yE hl) T' cs' rfl
   exact ⟨cs, q2.S, q3⟩
 have hlive : ∀ x, S (kD g') x ≠ none → S (kD g) x ≠ none := by
  intro x hx
  obtain ⟨⟨T', cs'⟩, e⟩ := Option.ne_none_iff_exists'.1 hx
  obtain ⟨cs, q2, _⟩ := hgl x T' cs' e
  rw [q2]; simp
 refine ⟨ρ, h1, ⟨?_, ?_, ?_, h2.zm, h2.zl⟩, ?_, h4, h5, h6, h9⟩
 ·intro x T' cs' hx
  obtain ⟨cs, q2, q3⟩ := hgl x T' cs' hx
  obtain ⟨m', p1, p2⟩ := h2.row x T' cs q2
  refine ⟨m', p1, ?_⟩
  rcases p2 with ⟨p2, p3⟩ | ⟨p2, ⟨vs, rest, r1, r2, r3⟩, p4⟩
  ·subst p3
   cases cs' with
   | nil => exact .inl ⟨p2, rfl⟩
   | cons _ _ => cases q3
  ·exact .inr ⟨p2, ⟨vs, rest, r1, r2, uZ (R := NlC) (T := RepC cx.p ρ w) (U := RepC cx.p ρ w) (fun _ _ _ h3 h4 => h3.rep h4) q3 r3⟩, p4⟩
 ·intro x x' m1 m2 hx hx' hm1 hm2 hn1 hn2 he
  exact h2.inj x x' m1 m2 (hlive x hx) (hlive x' hx') hm1 hm2 hn1 hn2 he
 ·intro x m1 hx hm1 hn1
  exact h2.zf x m1 (hlive x hx) hm1 hn1
 ·intro t
  unfold Proofs.YtdbjebdomdnbkaaGreat.S
  cases hl : l'.lookup t with
  | none => exact trivial
  | some u =>
   obtain ⟨v, q1, q2⟩ := hs.get _ (yE hl)
   have := h3 t
   rw [q1.S] at this
   exact q2.rep this
theorem NlS.nil {l : List (Nat × PV)} : NlS l [] := trivial
theorem NlS.cons {t : Nat} {l l2 : List (Nat × PV)} {u v : PV} (hl : l.lookup t = some v) (h : NlPV v u) (hs : NlS l l2) : NlS l ((t, u) :: l2) := ⟨⟨v, yT hl, h⟩, hs⟩
theorem NlL.same : ∀ cs : List C, All2 NlC cs cs
 | [] => trivial
 | c :: cs => ⟨.same c, NlL.same cs⟩
theorem NlG.nil {g : EH} : NlG (kD g) (kD []) := trivial
theorem u7a {x : Nat} {g g2 : EH} {T : TypeId} {bc : BC} (hl : g.lookup x = some (some (T, bc))) (hg : NlG (kD g) (kD g2)) : NlG (kD g) (kD ((x, some (T, bc)) :: g2)) := by
 refine ⟨fun T' cs' h => ?_, hg⟩
 cases h
 exact ⟨bc.to, qZ hl, NlL.same _⟩
theorem NlG.to {x : Nat} {g g2 : EH} {T : TypeId} {bc bc' : BC} (hl : g.lookup x = some (some (T, bc))) (h : All2 NlC bc.to bc'.to) (hg : NlG (kD g) (kD g2)) : NlG (kD g) (kD ((x, some (T, bc')) :: g2)) := by
 refine ⟨fun T' cs' h9 => ?_, hg⟩
 cases h9
 exact ⟨bc.to, qZ hl, h⟩
theorem NlL.nil : All2 NlC [] [] := trivial
theorem NlL.cons {x y : C} {xs ys : List C} (h : NlC x y) (hs : All2 NlC xs ys) : All2 NlC (x :: xs) (y :: ys) := ⟨h, hs⟩
theorem aH (k : IntKind) (l : List Int) (off n : Nat) (h : off + n ≤ l.length) : List.take n (List.drop off (dI k l)) = (List.range n).map fun i => D.lit (.int k (List.getD l (off + i) 0)) := by
 rw [k96]
 unfold dI
 apply List.ext_getElem
 ·simp; omega
 ·intro i h1 h2
  have hi : i < n := by simpa using h2
  simp [List.getD_eq_getElem?_getD, List.getElem?_eq_getElem (show off + i < l.length by omega)]
abbrev dl (l : List Int) (n : Nat) : D := D.sl (dI .i64 l) n
abbrev dm (l : List Int) (n : Nat) : D := D.sl (dI .i32 l) n
abbrev db (l : List Int) (n : Nat) : D := D.sl (dI .u8 l) n
abbrev uC (n : Nat) : C := iC (n : Int)
abbrev uD (n : Nat) : D := iD (n : Int)
abbrev uE (n : Nat) : E1 := iE (n : Int)
abbrev uV (n : Nat) : PV := iV (n : Int)
abbrev k9 : D := D.lit (.slice none 0 0)
abbrev zc9 : List D := [iD 0, iD 0, k9, iD 0, iD 0, k9, iD 0, iD 0, k9, iD 0, iD 0, iD 0, iD 0, iD 0, iD 0, k9]
theorem zr {cx : Cx} {n id nx : Nat} {draw : Bool} {ops : List Oper} {Q : yS} {c : Code} {l : List (Nat × PV)} {g : EH} (hs : List H) (live kb : List Nat) (P : Prop) (l' : List (Nat × PV)) (g' : EH) (nx' : Nat) (hP : P) (hQ : AW cx n c Q ⟨l', kD g', nx'⟩) (h : jV Tryz.prog Fun n ops hs l g nx live kb = some (P, l', g', nx') := by kernel_rfl) : AW cx n (.seq (.region id ops.toArray draw) c) Q ⟨l, kD g, nx⟩ := rO hs live kb h hP hQ
theorem zg {cx : Cx} {n id nx : Nat} {draw : Bool} {ops : List Oper} {Q : yS} {l : List (Nat × PV)} {g : EH} (hs : List H) (live kb : List Nat) (P : Prop) (l' : List (Nat × PV)) (g' : EH) (nx' : Nat) (hP : P) (hQ : Q .normal ⟨l', kD g', nx'⟩) (h : jV Tryz.prog Fun n ops hs l g nx live kb = some (P, l', g', nx') := by kernel_rfl) : AW cx n (.region id ops.toArray draw) Q ⟨l, kD g, nx⟩ := AW.rg hs live kb h hP hQ
theorem zf {cx : Cx} {n : Nat} {Q : yS} {l : List (Nat × PV)} {g : List (Nat × Option Bk)} {nx : Nat} {c : Operand} {x y : Code} (h : AW cx n y Q ⟨l, g, nx⟩) (hc : Ev l c (LV (.bool false)) := by exact .tmp (yT rfl)) : AW cx n (.cond c x y) Q ⟨l, g, nx⟩ := nN hc h
theorem zt {cx : Cx} {n : Nat} {Q : yS} {l : List (Nat × PV)} {g : List (Nat × Option Bk)} {nx : Nat} {c : Operand} {x y : Code} (h : AW cx n x Q ⟨l, g, nx⟩) (hc : Ev l c (LV (.bool true)) := by exact .tmp (yT rfl)) : AW cx n (.cond c x y) Q ⟨l, g, nx⟩ := nM hc h
theorem uM {cx : Cx} {n : Nat} {Q : yS} {l : List (Nat × PV)} {g : List (Nat × Option Bk)} {nx : Nat} {c : Operand} {x : Code} (h : Q .normal ⟨l, g, nx⟩) (hc : Ev l c (LV (.bool false)) := by exact .tmp (yT rfl)) : AW cx n (.cond c x .skip) Q ⟨l, g, nx⟩ := nN hc (AW.skip h)
theorem u1 {cx : Cx} {n : Nat} {Q : yS} {l : List (Nat × PV)} {g : List (Nat × Option Bk)} {nx : Nat} {c : Operand} {y : Code} (h : Q .normal ⟨l, g, nx⟩) (hc : Ev l c (LV (.bool true)) := by exact .tmp (yT rfl)) : AW cx n (.cond c .skip y) Q ⟨l, g, nx⟩ := nM hc (AW.skip h)
abbrev kQ (a : Nat) : Prop := a = a
abbrev kM (a : Int) : Prop := a = a
abbrev kY (a : List D) : Prop := a = a
abbrev q9l (a : List Int) : Prop := a = a
abbrev q9m (a : List (List Int)) : Prop := a = a
abbrev kJ (k : Nat) (l : List H) : List H := List.replicate k .no ++ l
theorem zs {cx : Cx} {n id nx : Nat} {draw : Bool} {ops : List Oper} {Q : yS} {c : Code} {l : List (Nat × PV)} {g : EH} (hs : List H) (live kb : List Nat) (P : Prop) (l' : List (Nat × PV)) (hP : P) (hQ : AW cx n c Q ⟨l', kD g, nx⟩) (h : jV Tryz.prog Fun n ops hs l g nx live kb = some (P, l', g, nx) := by kernel_rfl) : AW cx n (.seq (.region id ops.toArray draw) c) Q ⟨l, kD g, nx⟩ := rO hs live kb h hP hQ
theorem zh {cx : Cx} {n id nx : Nat} {draw : Bool} {ops : List Oper} {Q : yS} {l : List (Nat × PV)} {g : EH} (hs : List H) (live kb : List Nat) (P : Prop) (l' : List (Nat × PV)) (hP : P) (hQ : Q .normal ⟨l', kD g, nx⟩) (h : jV Tryz.prog Fun n ops hs l g nx live kb = some (P, l', g, nx) := by kernel_rfl) : AW cx n (.region id ops.toArray draw) Q ⟨l, kD g, nx⟩ := AW.rg hs live kb h hP hQ
theorem kG {cx : Cx} {n id nx : Nat} {draw : Bool} {ops : List Oper} {Q : yS} {c : Code} {l : List (Nat × PV)} {g : EH} (hs : List H) (P : Prop) (l' : List (Nat × PV)) (g' : EH) (nx' : Nat) (hP : P) (hQ : AW cx n c Q ⟨l', kD g', nx'⟩) (h : jV Tryz.prog Fun n ops hs l g nx (l'.map Prod.fst) (g'.map Prod.fst) = some (P, l', g', nx') := by kernel_rfl) : AW cx n (.seq (.region id ops.toArray draw) c) Q ⟨l, kD g, nx⟩ := rO hs _ _ h hP hQ
theorem aC {cx : Cx} {n id nx : Nat} {draw : Bool} {ops : List Oper} {Q : yS} {l : List (Nat × PV)} {g : EH} (hs : List H) (P : Prop) (l' : List (Nat × PV)) (g' : EH) (nx' : Nat) (hP : P) (hQ : Q .normal ⟨l', kD g', nx'⟩) (h : jV Tryz.prog Fun n ops hs l g nx (l'.map Prod.fst) (g'.map Prod.fst) = some (P, l', g', nx') := by kernel_rfl) : AW cx n (.region id ops.toArray draw) Q ⟨l, kD g, nx⟩ := AW.rg hs _ _ h hP hQ
theorem kV {cx : Cx} {n id nx : Nat} {draw : Bool} {ops : List Oper} {Q : yS} {c : Code} {l : List (Nat × PV)} {g : EH} (hs : List H) (P : Prop) (l' : List (Nat × PV)) (hP : P) (hQ : AW cx n c Q ⟨l', kD g, nx⟩) (h : jV Tryz.prog Fun n ops hs l g nx (l'.map Prod.fst) (g.map Prod.fst) = some (P, l', g, nx) := by kernel_rfl) : AW cx n (.seq (.region id ops.toArray draw) c) Q ⟨l, kD g, nx⟩ := rO hs _ _ h hP hQ
theorem uG {cx : Cx} {n id nx : Nat} {draw : Bool} {ops : List Oper} {Q : yS} {l : List (Nat × PV)} {g : EH} (hs : List H) (P : Prop) (l' : List (Nat × PV)) (hP : P) (hQ : Q .normal ⟨l', kD g, nx⟩) (h : jV Tryz.prog Fun n ops hs l g nx (l'.map Prod.fst) (g.map Prod.fst) = some (P, l', g, nx) := by kernel_rfl) : AW cx n (.region id ops.toArray draw) Q ⟨l, kD g, nx⟩ := AW.rg hs _ _ h hP hQ
theorem kL {P : Prop} (h : P := by with_reducible assumption) : P := h
abbrev qX (l : List D) (n : Nat) : PV := .e (.c (.d (.sl l n)))
abbrev kP (d : D) : PV := .e (.c (.d d))
end Go.Proofs.YtdbjebdomdnbkaaGreat
