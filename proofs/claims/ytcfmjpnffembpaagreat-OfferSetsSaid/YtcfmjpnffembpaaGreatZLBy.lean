/- Merged texts. -/
import Derived.Test.YtcfmjpnffembpaaGreatZAmZ
import Derived.Test.YtcfmjpnffembpaaGreatZAmD
namespace Go.Proofs.YtcfmjpnffembpaaGreat
open Go.ChangeShapes Go.WideShapes Go.ChangeAt Go.RowKit
set_option linter.unusedVariables false
set_option linter.unusedSimpArgs false
theorem w7 {cx : Cx} {n nx : Nat} {c : Code} {Q : y6} {l : List (Nat × PV)} {g : EH} (t : Nat) {a : Option Addr} {cap : Nat} (hm : cap ≤ maxLen) (ha : a = none → cap = 0) (hl : l.lookup t = some (LV (.slice a 0 cap))) (h : AW cx n c Q ⟨(t, qJ [] 0) :: l, kE g, nx⟩) : AW cx n c Q ⟨l, kE g, nx⟩ := by
 intro act w hmod
 refine h act w ?_
 obtain ⟨ρ, h1, h2, h3, h4, h5, h6, h9⟩ := hmod
 refine ⟨ρ, h1, h2, fun t' => ?_, h4, h5, h6, h9⟩
 have h3' := h3 t'
 show RepPV cx.p ρ w (S ((t, PV.e (.c (.d (.sl [] 0)))) :: l) t') _
 unfold Proofs.YtcfmjpnffembpaaGreat.S
 rw [List.lookup_cons]
 by_cases e : t' = t
 ·subst e
  rw [show (t' == t') = true by simp]
  have e2 : S l t' = LV (.slice a 0 cap) := (vA hl).S
  rw [show S l t' = _ from e2] at h3'
  have e3 := uK h3'
  show RepPV cx.p ρ w (PV.e (.c (.d (.sl [] 0)))) _
  rw [e3]
  exact .d (.nil a cap hm ha)
 ·rw [show (t' == t) = false by simpa using e]
  exact h3'
theorem Fun.nil0 {f nx0 nx1 : Nat} {y : PV} {g0 g1 : List (Nat × Option Bk)} (h1 : Fun f [.c (.d (.lit (.slice none 0 0)))] g0 nx0 y g1 nx1) (h2 : ∀ (a : Addr) (cap : Nat), cap ≤ maxLen → Fun f [.c (.d (.lit (.slice (some a) 0 cap)))] g0 nx0 y g1 nx1) : Fun f [.c (.d (.sl [] 0))] g0 nx0 y g1 nx1 := by
 intro cx args hn hh ha
 match args, ha with
 | [v], ha =>
  have hr : RepC cx.p cx.ρ0 cx.W (.d (.sl [] 0)) v := ha.1
  cases hr with
  | d h =>
   generalize hds : D.sl [] 0 = x at h
   cases h with
   | lit v h => cases hds
   | nil a cap hm ha' =>
    cases a with
    | none =>
     have := ha' rfl
     subst this
     exact h1 cx _ hn hh ⟨.d (.lit _ rfl), trivial⟩
    | some a => exact h2 a cap hm cx _ hn hh ⟨.d (.lit _ rfl), trivial⟩
   | sl ds us b off n cap hl hc hr hp hb hn2 hm =>
    cases hds
    exact h2 ⟨b, off, none⟩ cap hm cx _ hn hh ⟨.d (.lit _ rfl), trivial⟩
end Go.Proofs.YtcfmjpnffembpaaGreat
namespace Go.Proofs.YtcfmjpnffembpaaGreat
open Go.ChangeShapes Go.WideShapes Go.ChangeAt Go.RowKit
set_option linter.unusedVariables false
set_option linter.unusedSimpArgs false
theorem HRep.freeze {cx : Cx} {ρ : Rh} {w : World} {b : Nat} {g g' : List (Nat × Option Bk)} {T : TypeId} {ds : List D} (hb : Look g b (some (T, ds.map .d))) (hg : FzG b ds g g') (h2 : HRep cx ρ w (S g)) :
  ∃ ρ' : Rh, (∀ x, ρ' x = ρ x) ∧ HRep cx ρ' w (S g') ∧ ∀ (u u' : PV) (v : Value), FzPV b ds u u' → RepPV cx.p ρ w u v → RepPV cx.p ρ' w u' v := by
 obtain ⟨m, k1, k2⟩ := h2.row b T _ hb.S
 have hr : (m.nl = true ∧ ds = []) ∨ (m.nl = false ∧ Row cx.p ρ w m T (ds.map .d)) := k2.imp (fun k => ⟨k.1, List.map_eq_nil_iff.1 k.2⟩) (fun k => ⟨k.1, k.2.1⟩)
 obtain ⟨ρ', hgo, hf, hz, hzb⟩ : ∃ ρ' : Rh, Goes cx.p ρ ρ' w w ∧ (∀ x, ρ' x = ρ x) ∧ (m.nl = false → ρ'.z m.g) ∧ (∀ k, ρ'.z k → ρ.z k ∨ (m.nl = false ∧ k = m.g)) := by
  cases hn : m.nl with
  | true => exact ⟨ρ, Goes.refl _ _ _, fun _ => rfl, fun h => (by cases h), fun k h => .inl h⟩
  | false => exact ⟨ρ.freeze m.g, mZ _, fun _ => rfl, fun _ => .inr rfl, fun k h => h.imp id (fun h => ⟨rfl, h⟩)⟩
 have hgl : ∀ x T' cs', S g' x = some (T', cs') → x ≠ b ∧ ∃ cs, S g x = some (T', cs) ∧ All2 (FzC b ds) cs cs' := by
  intro x T' cs' hx
  unfold Proofs.YtcfmjpnffembpaaGreat.S at hx
  cases hl : g'.lookup x with
  | none => rw [hl] at hx; cases hx
  | some o =>
   rw [hl] at hx; simp at hx; subst hx
   obtain ⟨q1, cs, q2, q3⟩ := hg.get _ (yU hl) T' cs' rfl
   exact ⟨q1, cs, q2.S, q3⟩
 have hlive : ∀ x, S g' x ≠ none → x ≠ b ∧ S g x ≠ none := by
  intro x hx
  obtain ⟨⟨T', cs'⟩, e⟩ := Option.ne_none_iff_exists'.1 hx
  obtain ⟨q1, cs, q2, _⟩ := hgl x T' cs' e
  exact ⟨q1, by rw [q2]; simp⟩
 refine ⟨ρ', hf, ⟨?_, ?_, ?_, ?_, ?_⟩, fun u u' v q1 q2 => q1.rep hgo hz k1 hr q2⟩
 ·intro x T' cs' hx
  obtain ⟨q1, cs, q2, q3⟩ := hgl x T' cs' hx
  obtain ⟨m', p1, p2⟩ := h2.row x T' cs q2
  refine ⟨m', by rw [hf]; exact p1, ?_⟩
  rcases p2 with ⟨p2, p3⟩ | ⟨p2, ⟨vs, rest, r1, r2, r3⟩, p4⟩
  ·subst p3
   cases cs' with
   | nil => exact .inl ⟨p2, rfl⟩
   | cons _ _ => cases q3
  ·exact .inr ⟨p2, ⟨vs, rest, r1, r2, yG (R := FzC b ds) (T := RepC cx.p ρ w) (U := RepC cx.p ρ' w) (fun _ _ _ h3 h4 => h3.rep hgo hz k1 hr h4) q3 r3⟩, p4⟩
 ·intro x x' m1 m2 hx hx' hm1 hm2 hn1 hn2 he
  rw [hf] at hm1 hm2
  exact h2.inj x x' m1 m2 (hlive x hx).2 (hlive x' hx').2 hm1 hm2 hn1 hn2 he
 ·intro x m1 hx hm1 hn1 hzz
  rw [hf] at hm1
  rcases hzb _ hzz with hz' | ⟨hn, hz'⟩
  ·exact h2.zf x m1 (hlive x hx).2 hm1 hn1 hz'
  ·exact (hlive x hx).1 (h2.inj x b m1 m (hlive x hx).2 (by rw [hb.S]; simp) hm1 k1 hn1 hn hz')
 ·intro k hk
  rcases hzb k hk with hz' | ⟨hn, rfl⟩
  ·exact h2.zm k hz'
  ·rcases k2 with ⟨k2, _⟩ | ⟨_, _, k4⟩
   ·rw [hn] at k2; cases k2
   ·exact k4
 ·intro k hk
  rcases hzb k hk with hz' | ⟨hn, rfl⟩
  ·exact h2.zl k hz'
  ·rcases k2 with ⟨k2, _⟩ | ⟨_, k3, _⟩
   ·rw [hn] at k2; cases k2
   ·exact k3.lt
theorem Fun.frz {f : FuncId} {xs : List E1} {g0 : List (Nat × Option Bk)} {g1 g1' : EH} {n0 n1 : Nat} {y y' : PV} (b : Nat) {T : TypeId} {ds : List D} (h : Fun f xs g0 n0 y (kE g1) n1) (hb : g1.lookup b = some (some (T, .ds ds))) (hg : FzG b ds (kE g1) (kE g1')) (hy : FzPV b ds y y') : Fun f xs g0 n0 y' (kE g1') n1 := by
 intro cx args hn hh ha
 refine (h cx args hn hh ha).mono ?_
 rintro e w' ⟨v, ρ', rfl, h1, h2, h3, h4, h5⟩
 obtain ⟨ρ2, q1, q2, q3⟩ := HRep.freeze (uS hb) hg h3
 exact ⟨v, ρ2, rfl, fun b m hb => by rw [q1]; exact h1 b m hb, fun b hb => by rw [q1]; exact h2 b hb, q2, h4, q3 _ _ _ hy h5⟩
inductive NlC : C → C → Prop where
 | same (c : C) : NlC c c
 | nil : NlC (.d (.lit (.slice none 0 0))) (.d (.sl [] 0))
inductive NlE : E1 → E1 → Prop where
 | same (x : E1) : NlE x x
 | c {x y : C} (h : NlC x y) : NlE (.c x) (.c y)
 | agg {xs ys : List C} (h : All2 NlC xs ys) : NlE (.agg xs) (.agg ys)
inductive NlPV : PV → PV → Prop where
 | e {x y : E1} (h : NlE x y) : NlPV (.e x) (.e y)
 | tup {xs ys : List E1} (h : All2 NlE xs ys) : NlPV (.tup xs) (.tup ys)
 | same (x : PV) : NlPV x x
theorem NlC.rep {p : Nat → Prop} {ρ : Rh} {w : World} {x y : C} (h : NlC x y) {v : Value} (hc : RepC p ρ w x v) : RepC p ρ w y v := by
 cases h with
 | same => exact hc
 | nil =>
  cases hc with
  | d h => cases h with
   | lit v h => exact .d (.nil none 0 (Nat.zero_le _) (fun _ => rfl))
theorem NlE.rep {p : Nat → Prop} {ρ : Rh} {w : World} {x y : E1} (h : NlE x y) {v : Value} (hc : RepE p ρ w x v) : RepE p ρ w y v := by
 cases h with
 | same => exact hc
 | c h => exact h.rep hc
 | agg h => obtain ⟨us, e, h2⟩ := hc; exact ⟨us, e, yG (R := NlC) (T := RepC p ρ w) (U := RepC p ρ w) (fun _ _ _ h3 h4 => h3.rep h4) h h2⟩
theorem NlPV.rep {p : Nat → Prop} {ρ : Rh} {w : World} {x y : PV} (h : NlPV x y) {v : Value} (hc : RepPV p ρ w x v) : RepPV p ρ w y v := by
 cases h with
 | e h => exact h.rep hc
 | tup h => obtain ⟨us, e, h2⟩ := hc; exact ⟨us, e, yG (R := NlE) (T := RepE p ρ w) (U := RepE p ρ w) (fun _ _ _ h3 h4 => h3.rep h4) h h2⟩
 | same => exact hc
theorem Fun.rel {f : FuncId} {xs : List E1} {g0 g1 : List (Nat × Option Bk)} {n0 n1 : Nat} {y y' : PV} (h : Fun f xs g0 n0 y g1 n1) (hy : NlPV y y') : Fun f xs g0 n0 y' g1 n1 := by
 intro cx args hn hh ha
 refine (h cx args hn hh ha).mono ?_
 rintro e w' ⟨v, ρ', rfl, h1, h2, h3, h4, h5⟩
 exact ⟨v, ρ', rfl, h1, h2, h3, h4, hy.rep h5⟩
theorem FzG.skip {b x : Nat} {ds : List D} {g g2 : EH} (hg : FzG b ds (kE g) (kE g2)) : FzG b ds (kE g) (kE ((x, none) :: g2)) := ⟨fun T cs' h => (by cases h), hg⟩
def NlS (l : List (Nat × PV)) : List (Nat × PV) → Prop
 | [] => True
 | (t, u) :: l2 => (∃ v, Look l t v ∧ NlPV v u) ∧ NlS l l2
theorem NlS.get {l : List (Nat × PV)} : ∀ {l2 : List (Nat × PV)}, NlS l l2 → ∀ x ∈ l2, ∃ v, Look l x.1 v ∧ NlPV v x.2
 | (t, u) :: l2, h, x, hx => by
  rcases List.mem_cons.1 hx with rfl | hx
  ·exact h.1
  ·exact NlS.get h.2 x hx
def NlG (g : List (Nat × Option Bk)) : List (Nat × Option Bk) → Prop
 | [] => True
 | (x, o) :: g2 => (∀ T cs', o = some (T, cs') → ∃ cs, Look g x (some (T, cs)) ∧ All2 NlC cs cs') ∧ NlG g g2
theorem NlG.get {g : List (Nat × Option Bk)} : ∀ {g2 : List (Nat × Option Bk)}, NlG g g2 → ∀ x ∈ g2, ∀ T cs', x.2 = some (T, cs') → ∃ cs, Look g x.1 (some (T, cs)) ∧ All2 NlC cs cs'
 | (t, u) :: l2, h, x, hx => by
  rcases List.mem_cons.1 hx with rfl | hx
  ·exact h.1
  ·exact NlG.get h.2 x hx
theorem yV {cx : Cx} {n nx : Nat} {c : Code} {Q : y6} {l l' : List (Nat × PV)} {g g' : EH} (hs : NlS l l') (hg : NlG (kE g) (kE g')) (h : AW cx n c Q ⟨l', kE g', nx⟩) : AW cx n c Q ⟨l, kE g, nx⟩ := by
 intro a w hm
 refine h a w ?_
 obtain ⟨ρ, h1, h2, h3, h4, h5, h6, h9⟩ := hm
 have hgl : ∀ x T' cs', S (kE g') x = some (T', cs') → ∃ cs, S (kE g) x = some (T', cs) ∧ All2 NlC cs cs' := by
  intro x T' cs' hx
  unfold Proofs.YtcfmjpnffembpaaGreat.S at hx
  cases hl : (kE g').lookup x with
  | none => rw [hl] at hx; cases hx
  | some o =>
   rw [hl] at hx; simp at hx; subst hx
   obtain ⟨cs, q2, q3⟩ := hg.get _ (yU hl) T' cs' rfl
   exact ⟨cs, q2.S, q3⟩
 have hlive : ∀ x, S (kE g') x ≠ none → S (kE g) x ≠ none := by
  intro x hx
  obtain ⟨⟨T', cs'⟩, e⟩ := Option.ne_none_iff_exists'.1 hx
  obtain ⟨cs, q2, _⟩ := hgl x T' cs' e
  rw [q2]; simp
 refine ⟨ρ, h1, ⟨?_, ?_, ?_, h2.zm, h2.zl⟩, ?_, h4, h5, h6, h9⟩
 ·intro x T' cs' hx
  obtain ⟨cs, q2, q3⟩ := hgl x T' cs' hx
  obtain ⟨m', p1, p2⟩ := h2.row x T' cs q2
  refine ⟨m', p1, ?_⟩
  rcases p2 with ⟨p2, p3⟩ | ⟨p2, ⟨vs, rest, r1, r2, r3⟩, p4⟩
  ·subst p3
   cases cs' with
   | nil => exact .inl ⟨p2, rfl⟩
   | cons _ _ => cases q3
  ·exact .inr ⟨p2, ⟨vs, rest, r1, r2, yG (R := NlC) (T := RepC cx.p ρ w) (U := RepC cx.p ρ w) (fun _ _ _ h3 h4 => h3.rep h4) q3 r3⟩, p4⟩
 ·intro x x' m1 m2 hx hx' hm1 hm2 hn1 hn2 he
  exact h2.inj x x' m1 m2 (hlive x hx) (hlive x' hx') hm1 hm2 hn1 hn2 he
 ·intro x m1 hx hm1 hn1
  exact h2.zf x m1 (hlive x hx) hm1 hn1
 ·intro t
  unfold Proofs.YtcfmjpnffembpaaGreat.S
  cases hl : l'.lookup t with
  | none => exact trivial
  | some u =>
   obtain ⟨v, q1, q2⟩ := hs.get _ (yU hl)
   have := h3 t
   rw [q1.S] at this
   exact q2.rep this
theorem NlS.nil {l : List (Nat × PV)} : NlS l [] := trivial
theorem NlS.cons {t : Nat} {l l2 : List (Nat × PV)} {u v : PV} (hl : l.lookup t = some v) (h : NlPV v u) (hs : NlS l l2) : NlS l ((t, u) :: l2) := ⟨⟨v, vA hl, h⟩, hs⟩
theorem NlL.same : ∀ cs : List C, All2 NlC cs cs
 | [] => trivial
 | c :: cs => ⟨.same c, NlL.same cs⟩
theorem NlG.nil {g : EH} : NlG (kE g) (kE []) := trivial
theorem u6x {x : Nat} {g g2 : EH} {T : TypeId} {bc : BC} (hl : g.lookup x = some (some (T, bc))) (hg : NlG (kE g) (kE g2)) : NlG (kE g) (kE ((x, some (T, bc)) :: g2)) := by
 refine ⟨fun T' cs' h => ?_, hg⟩
 cases h
 exact ⟨bc.to, uS hl, NlL.same _⟩
theorem NlG.to {x : Nat} {g g2 : EH} {T : TypeId} {bc bc' : BC} (hl : g.lookup x = some (some (T, bc))) (h : All2 NlC bc.to bc'.to) (hg : NlG (kE g) (kE g2)) : NlG (kE g) (kE ((x, some (T, bc')) :: g2)) := by
 refine ⟨fun T' cs' h9 => ?_, hg⟩
 cases h9
 exact ⟨bc.to, uS hl, h⟩
theorem NlL.nil : All2 NlC [] [] := trivial
theorem NlL.cons {x y : C} {xs ys : List C} (h : NlC x y) (hs : All2 NlC xs ys) : All2 NlC (x :: xs) (y :: ys) := ⟨h, hs⟩
theorem yN (k : IntKind) (l : List Int) (off n : Nat) (h : off + n ≤ l.length) : List.take n (List.drop off (dI k l)) = (List.range n).map fun i => D.lit (.int k (List.getD l (off + i) 0)) := by
 rw [k94]
 unfold dI
 apply List.ext_getElem
 ·simp; omega
 ·intro i h1 h2
  have hi : i < n := by simpa using h2
  simp [List.getD_eq_getElem?_getD, List.getElem?_eq_getElem (show off + i < l.length by omega)]
end Go.Proofs.YtcfmjpnffembpaaGreat
namespace Go.Proofs.YtcfmjpnffembpaaGreat
open Go.ChangeShapes Go.WideShapes Go.ChangeAt Go.RowKit
set_option linter.unusedVariables false
set_option linter.unusedSimpArgs false
theorem dJ {l : List Int} {n j : Nat} : List.getD (List.drop n l) j 0 = List.getD l (n + j) 0 := by
  rw [List.getD_eq_getElem?_getD, List.getD_eq_getElem?_getD, List.getElem?_drop]
theorem k26 {l : List Int} {n j : Nat} (h : j < n) : List.getD (List.take n l) j 0 = List.getD l j 0 := by
  rw [List.getD_eq_getElem?_getD, List.getD_eq_getElem?_getD, List.getElem?_take, if_pos h]
def Byt (l : List Int) : Prop := ∀ x ∈ l, 0 ≤ x ∧ x ≤ 255
theorem Byt.at {l : List Int} (h : Byt l) (j : Nat) (hj : j < List.length l) : 0 ≤ List.getD l j 0 ∧ List.getD l j 0 ≤ 255 := by
  rw [List.getD_eq_getElem?_getD, List.getElem?_eq_getElem hj]
  exact h _ (List.getElem_mem hj)
theorem Byt.nil : Byt [] := fun x h => by cases h
theorem Byt.cons {x : Int} {l : List Int} (h : 0 ≤ x ∧ x ≤ 255) (hl : Byt l) : Byt (x :: l) := fun y hy => by
  rcases List.mem_cons.1 hy with rfl | hy
  · exact h
  · exact hl y hy
theorem Byt.app {l m : List Int} (h : Byt l) (h2 : Byt m) : Byt (l ++ m) := fun x hx => (List.mem_append.1 hx).elim (h x) (h2 x)
theorem Byt.drop {l : List Int} (h : Byt l) (n : Nat) : Byt (List.drop n l) := fun x hx => h x (List.mem_of_mem_drop hx)
theorem Byt.take {l : List Int} (h : Byt l) (n : Nat) : Byt (List.take n l) := fun x hx => h x (List.mem_of_mem_take hx)
theorem Byt.rep (n : Nat) {x : Int} (h : 0 ≤ x ∧ x ≤ 255) : Byt (List.replicate n x) := fun y hy => by rw [(List.mem_replicate.1 hy).2]; exact h
theorem Byt.set {l : List Int} (h : Byt l) (n : Nat) {x : Int} (hx : 0 ≤ x ∧ x ≤ 255) : Byt (List.set l n x) := fun y hy => by
  rcases List.mem_or_eq_of_mem_set hy with hy | rfl
  · exact h y hy
  · exact hx
theorem u3g {l : List Int} (h : ∀ x ∈ l, 0 ≤ x ∧ x ≤ 255) : Byt l := h
def bsD (xs : List (List Int)) : List D := xs.map fun l => D.sl (dI .u8 l) l.length
theorem y9 (xs : List (List Int)) : (bsD xs).length = xs.length := by unfold bsD; simp
def BytL (xs : List (List Int)) : Prop := ∀ l ∈ xs, Byt l
theorem BytL.at {xs : List (List Int)} (h : BytL xs) (i : Nat) : Byt (List.getD xs i []) := by
  rw [List.getD_eq_getElem?_getD]
  cases e : xs[i]? with
  | none => exact Byt.nil
  | some l => exact h l (List.mem_of_getElem? e)
theorem BytL.nil : BytL [] := fun l h => by cases h
theorem BytL.snoc {xs : List (List Int)} {l : List Int} (h : BytL xs) (hl : Byt l) : BytL (xs ++ [l]) := fun m hm => (List.mem_append.1 hm).elim (h m) fun hm => by
  rw [List.mem_singleton.1 hm]; exact hl
theorem BytL.app {xs ys : List (List Int)} (h : BytL xs) (h2 : BytL ys) : BytL (xs ++ ys) := fun m hm => (List.mem_append.1 hm).elim (h m) (h2 m)
theorem BytL.take {xs : List (List Int)} (h : BytL xs) (n : Nat) : BytL (List.take n xs) := fun m hm => h m (List.mem_of_mem_take hm)
end Go.Proofs.YtcfmjpnffembpaaGreat
