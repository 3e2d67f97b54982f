/- Blocks that are written no more are told as what is read alone. No statement is proved here. -/
import Derived.Test.YtkjmlililpgamaaZAmK
namespace Go.Proofs.Ytkjmlililpgamaa
open Go.ChangeShapes Go.WideShapes Go.ChangeAt Go.RowKit
set_option linter.unusedVariables false
set_option linter.unusedSimpArgs false
inductive FzC (b : Nat) (ds : List D) : C → C → Prop where
 | same (c : C) : FzC b ds c c
 | own (off len s : Nat) (wh : Bool) {ds' : List D} (hd : (ds.drop off).take (len * s) = ds') (hl : ds'.length = len * s) : FzC b ds (.own b off len s wh) (.d (.sl ds' len))
inductive FzE (b : Nat) (ds : List D) : E1 → E1 → Prop where
 | c {x y : C} (h : FzC b ds x y) : FzE b ds (.c x) (.c y)
 | agg {xs ys : List C} (h : All2 (FzC b ds) xs ys) : FzE b ds (.agg xs) (.agg ys)
inductive FzPV (b : Nat) (ds : List D) : PV → PV → Prop where
 | e {x y : E1} (h : FzE b ds x y) : FzPV b ds (.e x) (.e y)
 | tup {xs ys : List E1} (h : All2 (FzE b ds) xs ys) : FzPV b ds (.tup xs) (.tup ys)
 | same (x : PV) : FzPV b ds x x
def Rh.freeze (ρ : Rh) (g : Nat) : Rh := ⟨ρ.f, fun k => ρ.z k ∨ k = g⟩
@[simp] theorem zV (ρ : Rh) (g b : Nat) : (ρ.freeze g) b = ρ b := rfl
theorem dE {p : Nat → Prop} {ρ : Rh} {w : World} (g : Nat) : Goes p ρ (ρ.freeze g) w w := ⟨fun _ _ h => h, fun _ h => .inl h, Nat.le_refl _, fun _ _ _ => rfl⟩
theorem FzC.rep {p : Nat → Prop} {ρ ρ' : Rh} {w : World} {b : Nat} {ds : List D} {m : Nm} {T : TypeId} (hgo : Goes p ρ ρ' w w) (hz : m.nl = false → ρ'.z m.g) (hm : ρ b = some m) (hr : (m.nl = true ∧ ds = []) ∨ (m.nl = false ∧ Row p ρ w m T (ds.map .d))) {x y : C} (h : FzC b ds x y) {v : Value} (hc : RepC p ρ w x v) : RepC p ρ' w y v := by
 cases h with
 | same => exact hc.mono hgo
 | @own off len s wh ds' hd hl =>
  by_cases h0 : len = 0
  ·subst h0
   have hnil := List.eq_nil_of_length_eq_zero (hl.trans (Nat.zero_mul s))
   subst hnil
   cases hc with
   | own _ _ _ _ _ m2 cap k1 k2 k3 k4 k5 => exact .d (.nil _ cap k4 (fun h => by cases h))
   | ownn _ _ m2 k1 k2 => exact .d (.nil none 0 (Nat.zero_le _) (fun _ => rfl))
   | own0 _ _ _ a cap k1 k2 => exact .d (.nil a cap k1 k2)
  ·obtain ⟨m2, cap, k1, k2, rfl, k3, k4, k5⟩ := uY (by omega) (v := v) (show RepPV p ρ w (.e (.c (.own b off len s wh))) v from hc)
   rw [hm] at k1; cases k1
   rcases hr with ⟨hr, _⟩ | ⟨_, vs, rest, r1, r2, r3⟩
   ·rw [k2] at hr; cases hr
   have h4 := (r3.drop off).take (len * s)
   rw [← List.map_drop, ← List.map_take, hd] at h4
   have hlen : ((vs.drop off).take (len * s)).length = ds'.length := by rw [← h4.len]; simp
   refine .d (.sl ds' ((vs.drop off).take (len * s)) m.g off len cap hlen ?_ ?_ (.inr (hz k2)) r1.lt k3 k4)
   ·intro i u hu
    rw [List.getElem?_take] at hu
    split at hu
    ·rw [List.getElem?_drop] at hu
     exact BlkM.cell (vs := vs ++ rest) r1 (off + i) (by rw [List.getElem?_append_left (List.getElem?_eq_some_iff.1 hu).1]; exact hu)
    ·cases hu
   ·intro i d u hd' hu
    have := h4.get i (.d d) u (by rw [List.getElem?_map, hd']; rfl) hu
    cases this with
    | d h => exact h.mono hgo.pz (Nat.le_refl _) (fun _ _ _ => rfl)
theorem FzE.rep {p : Nat → Prop} {ρ ρ' : Rh} {w : World} {b : Nat} {ds : List D} {m : Nm} {T : TypeId} (hgo : Goes p ρ ρ' w w) (hz : m.nl = false → ρ'.z m.g) (hm : ρ b = some m) (hr : (m.nl = true ∧ ds = []) ∨ (m.nl = false ∧ Row p ρ w m T (ds.map .d))) {x y : E1} (h : FzE b ds x y) {v : Value} (hc : RepE p ρ w x v) : RepE p ρ' w y v := by
 cases h with
 | c h => exact h.rep hgo hz hm hr hc
 | agg h => obtain ⟨us, e, h2⟩ := hc; exact ⟨us, e, qD (R := FzC b ds) (T := RepC p ρ w) (U := RepC p ρ' w) (fun _ _ _ h3 h4 => h3.rep hgo hz hm hr h4) h h2⟩
theorem FzPV.rep {p : Nat → Prop} {ρ ρ' : Rh} {w : World} {b : Nat} {ds : List D} {m : Nm} {T : TypeId} (hgo : Goes p ρ ρ' w w) (hz : m.nl = false → ρ'.z m.g) (hm : ρ b = some m) (hr : (m.nl = true ∧ ds = []) ∨ (m.nl = false ∧ Row p ρ w m T (ds.map .d))) {x y : PV} (h : FzPV b ds x y) {v : Value} (hc : RepPV p ρ w x v) : RepPV p ρ' w y v := by
 cases h with
 | e h => exact h.rep hgo hz hm hr hc
 | tup h => obtain ⟨us, e, h2⟩ := hc; exact ⟨us, e, qD (R := FzE b ds) (T := RepE p ρ w) (U := RepE p ρ' w) (fun _ _ _ h3 h4 => h3.rep hgo hz hm hr h4) h h2⟩
 | same => exact hc.mono hgo
def FzS (b : Nat) (ds : List D) (l : List (Nat × PV)) : List (Nat × PV) → Prop
 | [] => True
 | (t, u) :: l2 => (∃ v, Look l t v ∧ FzPV b ds v u) ∧ FzS b ds l l2
theorem FzS.get {b : Nat} {ds : List D} {l : List (Nat × PV)} : ∀ {l2 : List (Nat × PV)}, FzS b ds l l2 → ∀ x ∈ l2, ∃ v, Look l x.1 v ∧ FzPV b ds v x.2
 | (t, u) :: l2, h, x, hx => by
  rcases List.mem_cons.1 hx with rfl | hx
  ·exact h.1
  ·exact FzS.get h.2 x hx
def FzG (b : Nat) (ds : List D) (g : List (Nat × Option Bk)) : List (Nat × Option Bk) → Prop
 | [] => True
 | (x, o) :: g2 => (∀ T cs', o = some (T, cs') → x ≠ b ∧ ∃ cs, Look g x (some (T, cs)) ∧ All2 (FzC b ds) cs cs') ∧ FzG b ds g g2
theorem FzG.get {b : Nat} {ds : List D} {g : List (Nat × Option Bk)} : ∀ {g2 : List (Nat × Option Bk)}, FzG b ds g g2 → ∀ x ∈ g2, ∀ T cs', x.2 = some (T, cs') → x.1 ≠ b ∧ ∃ cs, Look g x.1 (some (T, cs)) ∧ All2 (FzC b ds) cs cs'
 | (t, u) :: l2, h, x, hx => by
  rcases List.mem_cons.1 hx with rfl | hx
  ·exact h.1
  ·exact FzG.get h.2 x hx
theorem Mod.freeze {cx : Cx} {n nx b : Nat} {l l' : List (Nat × PV)} {g g' : List (Nat × Option Bk)} {T : TypeId} {ds : List D} (hb : Look g b (some (T, ds.map .d))) (hs : FzS b ds l l') (hg : FzG b ds g g') {a : Act} {w : World} (h : Mod cx n l g nx a w) : Mod cx n l' g' nx a w := by
 obtain ⟨ρ, h1, h2, h3, h4, h5, h6, h9⟩ := h
 obtain ⟨m, k1, k2⟩ := h2.row b T _ hb.S
 have hr : (m.nl = true ∧ ds = []) ∨ (m.nl = false ∧ Row cx.p ρ w m T (ds.map .d)) := k2.imp (fun k => ⟨k.1, List.map_eq_nil_iff.1 k.2⟩) (fun k => ⟨k.1, k.2.1⟩)
 obtain ⟨ρ', hgo, hf, hz, hzb⟩ : ∃ ρ' : Rh, Goes cx.p ρ ρ' w w ∧ (∀ x, ρ' x = ρ x) ∧ (m.nl = false → ρ'.z m.g) ∧ (∀ k, ρ'.z k → ρ.z k ∨ (m.nl = false ∧ k = m.g)) := by
  cases hn : m.nl with
  | true => exact ⟨ρ, Goes.refl _ _ _, fun _ => rfl, fun h => (by cases h), fun k h => .inl h⟩
  | false => exact ⟨ρ.freeze m.g, dE _, fun _ => rfl, fun _ => .inr rfl, fun k h => h.imp id (fun h => ⟨rfl, h⟩)⟩
 have hgl : ∀ x T' cs', S g' x = some (T', cs') → x ≠ b ∧ ∃ cs, S g x = some (T', cs) ∧ All2 (FzC b ds) cs cs' := by
  intro x T' cs' hx
  unfold Proofs.Ytkjmlililpgamaa.S at hx
  cases hl : g'.lookup x with
  | none => rw [hl] at hx; cases hx
  | some o =>
   rw [hl] at hx; simp at hx; subst hx
   obtain ⟨q1, cs, q2, q3⟩ := hg.get _ (qI hl) T' cs' rfl
   exact ⟨q1, cs, q2.S, q3⟩
 have hlive : ∀ x, S g' x ≠ none → x ≠ b ∧ S g x ≠ none := by
  intro x hx
  obtain ⟨⟨T', cs'⟩, e⟩ := Option.ne_none_iff_exists'.1 hx
  obtain ⟨q1, cs, q2, _⟩ := hgl x T' cs' e
  exact ⟨q1, by rw [q2]; simp⟩
 refine ⟨ρ', h1, ⟨?_, ?_, ?_, ?_, ?_⟩, ?_, h4, h5, fun x hx => by rw [hf]; exact h6 x hx, fun x m hx => by rw [hf]; exact h9 x m hx⟩
 ·intro x T' cs' hx
  obtain ⟨q1, cs, q2, q3⟩ := hgl x T' cs' hx
  obtain ⟨m', p1, p2⟩ := h2.row x T' cs q2
  refine ⟨m', by rw [hf]; exact p1, ?_⟩
  rcases p2 with ⟨p2, p3⟩ | ⟨p2, ⟨vs, rest, r1, r2, r3⟩, p4⟩
  ·subst p3
   cases cs' with
   | nil => exact .inl ⟨p2, rfl⟩
   | cons _ _ => cases q3
  ·exact .inr ⟨p2, ⟨vs, rest, r1, r2, qD (R := FzC b ds) (T := RepC cx.p ρ w) (U := RepC cx.p ρ' w) (fun _ _ _ h3 h4 => h3.rep hgo hz k1 hr h4) q3 r3⟩, p4⟩
 ·intro x x' m1 m2 hx hx' hm1 hm2 hn1 hn2 he
  rw [hf] at hm1 hm2
  exact h2.inj x x' m1 m2 (hlive x hx).2 (hlive x' hx').2 hm1 hm2 hn1 hn2 he
 ·intro x m1 hx hm1 hn1 hzz
  rw [hf] at hm1
  rcases hzb _ hzz with hz' | ⟨hn, hz'⟩
  ·exact h2.zf x m1 (hlive x hx).2 hm1 hn1 hz'
  ·exact (hlive x hx).1 (h2.inj x b m1 m (hlive x hx).2 (by rw [hb.S]; simp) hm1 k1 hn1 hn hz')
 ·intro k hk
  rcases hzb k hk with hz' | ⟨hn, rfl⟩
  ·exact h2.zm k hz'
  ·rcases k2 with ⟨k2, _⟩ | ⟨_, _, k4⟩
   ·rw [hn] at k2; cases k2
   ·exact k4
 ·intro k hk
  rcases hzb k hk with hz' | ⟨hn, rfl⟩
  ·exact h2.zl k hz'
  ·rcases k2 with ⟨k2, _⟩ | ⟨_, k3, _⟩
   ·rw [hn] at k2; cases k2
   ·exact k3.lt
 ·intro t
  unfold Proofs.Ytkjmlililpgamaa.S
  cases hl : l'.lookup t with
  | none => exact trivial
  | some u =>
   obtain ⟨v, q1, q2⟩ := hs.get _ (qI hl)
   have := h3 t
   rw [q1.S] at this
   exact q2.rep hgo hz k1 hr this
theorem AW.freeze {cx : Cx} {n nx : Nat} {c : Code} {Q : qR} {l l' : List (Nat × PV)} {g g' : EH} (b : Nat) {T : TypeId} {ds : List D} (hb : g.lookup b = some (some (T, .ds ds))) (hs : FzS b ds l l') (hg : FzG b ds (kC g) (kC g')) (h : AW cx n c Q ⟨l', kC g', nx⟩) : AW cx n c Q ⟨l, kC g, nx⟩ :=
 fun a w hm => h a w (hm.freeze (kX hb) hs hg)
theorem FzS.nil {b : Nat} {ds : List D} {l : List (Nat × PV)} : FzS b ds l [] := trivial
theorem FzS.cons {b t : Nat} {ds : List D} {l l2 : List (Nat × PV)} {u v : PV} (hl : l.lookup t = some v) (h : FzPV b ds v u) (hs : FzS b ds l l2) : FzS b ds l ((t, u) :: l2) := ⟨⟨v, qJ hl, h⟩, hs⟩
theorem All2.same {b : Nat} {ds : List D} : ∀ cs : List C, All2 (FzC b ds) cs cs
 | [] => trivial
 | c :: cs => ⟨.same c, All2.same cs⟩
theorem FzL.nil {b : Nat} {ds : List D} : All2 (FzC b ds) [] [] := trivial
theorem FzL.cons {b : Nat} {ds : List D} {x y : C} {xs ys : List C} (h : FzC b ds x y) (hs : All2 (FzC b ds) xs ys) : All2 (FzC b ds) (x :: xs) (y :: ys) := ⟨h, hs⟩
theorem FzG.nil {b : Nat} {ds : List D} {g : EH} : FzG b ds (kC g) (kC []) := trivial
theorem vS {b x : Nat} {ds : List D} {g g2 : EH} {T : TypeId} {bc : BC} (hne : (x == b) = false) (hl : g.lookup x = some (some (T, bc))) (hg : FzG b ds (kC g) (kC g2)) : FzG b ds (kC g) (kC ((x, some (T, bc)) :: g2)) := by
 refine ⟨fun T' cs' h => ?_, hg⟩
 cases h
 exact ⟨by simpa using hne, bc.to, kX hl, All2.same _⟩
theorem FzG.to {b x : Nat} {ds : List D} {g g2 : EH} {T : TypeId} {bc bc' : BC} (hne : (x == b) = false) (hl : g.lookup x = some (some (T, bc))) (h : All2 (FzC b ds) bc.to bc'.to) (hg : FzG b ds (kC g) (kC g2)) : FzG b ds (kC g) (kC ((x, some (T, bc')) :: g2)) := by
 refine ⟨fun T' cs' h9 => ?_, hg⟩
 cases h9
 exact ⟨by simpa using hne, bc.to, kX hl, h⟩
end Go.Proofs.Ytkjmlililpgamaa
