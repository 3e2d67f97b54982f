/- Merged texts. -/
import Derived.Test.YtdbjebdomdnbkaaZAmZ
import Derived.Test.YtdbjebdomdnbkaaZAmD
namespace Go.Proofs.Ytdbjebdomdnbkaa
open Go.ChangeShapes Go.WideShapes Go.ChangeAt Go.RowKit
set_option linter.unusedVariables false
set_option linter.unusedSimpArgs false
theorem HRep.freeze {cx : Cx} {ρ : Rh} {w : World} {b : Nat} {g g' : List (Nat × Option Bk)} {T : TypeId} {ds : List D} (hb : Look g b (some (T, ds.map .d))) (hg : FzG b ds g g') (h2 : HRep cx ρ w (S g)) :
  ∃ ρ' : Rh, (∀ x, ρ' x = ρ x) ∧ HRep cx ρ' w (S g') ∧ ∀ (u u' : PV) (v : Value), FzPV b ds u u' → RepPV cx.p ρ w u v → RepPV cx.p ρ' w u' v := by
 obtain ⟨m, k1, k2⟩ := h2.row b T _ hb.S
 have hr : (m.nl = true ∧ ds = []) ∨ (m.nl = false ∧ Row cx.p ρ w m T (ds.map .d)) := k2.imp (fun k => ⟨k.1, List.map_eq_nil_iff.1 k.2⟩) (fun k => ⟨k.1, k.2.1⟩)
 obtain ⟨ρ', hgo, hf, hz, hzb⟩ : ∃ ρ' : Rh, Goes cx.p ρ ρ' w w ∧ (∀ x, ρ' x = ρ x) ∧ (m.nl = false → ρ'.z m.g) ∧ (∀ k, ρ'.z k → ρ.z k ∨ (m.nl = false ∧ k = m.g)) := by
  cases hn : m.nl with
  | true => exact ⟨ρ, Goes.refl _ _ _, fun _ => rfl, fun h => (by cases h), fun k h => .inl h⟩
  | false => exact ⟨ρ.freeze m.g, mF _, fun _ => rfl, fun _ => .inr rfl, fun k h => h.imp id (fun h => ⟨rfl, h⟩)⟩
 have hgl : ∀ x T' cs', S g' x = some (T', cs') → x ≠ b ∧ ∃ cs, S g x = some (T', cs) ∧ All2 (FzC b ds) cs cs' := by
  intro x T' cs' hx
  unfold Proofs.Ytdbjebdomdnbkaa.S at hx
  cases hl : g'.lookup x with
  | none => rw [hl] at hx; cases hx
  | some o =>
   rw [hl] at hx; simp at hx; subst hx
   obtain ⟨q1, cs, q2, q3⟩ := hg.get _ (yA hl) T' cs' rfl
   exact ⟨q1, cs, q2.S, q3⟩
 have hlive : ∀ x, S g' x ≠ none → x ≠ b ∧ S g x ≠ none := by
  intro x hx
  obtain ⟨⟨T', cs'⟩, e⟩ := Option.ne_none_iff_exists'.1 hx
  obtain ⟨q1, cs, q2, _⟩ := hgl x T' cs' e
  exact ⟨q1, by rw [q2]; simp⟩
 refine ⟨ρ', hf, ⟨?_, ?_, ?_, ?_, ?_⟩, fun u u' v q1 q2 => q1.rep hgo hz k1 hr q2⟩
 ·intro x T' cs' hx
  obtain ⟨q1, cs, q2, q3⟩ := hgl x T' cs' hx
  obtain ⟨m', p1, p2⟩ := h2.row x T' cs q2
  refine ⟨m', by rw [hf]; exact p1, ?_⟩
  rcases p2 with ⟨p2, p3⟩ | ⟨p2, ⟨vs, rest, r1, r2, r3⟩, p4⟩
  ·subst p3
   cases cs' with
   | nil => exact .inl ⟨p2, rfl⟩
   | cons _ _ => cases q3
  ·exact .inr ⟨p2, ⟨vs, rest, r1, r2, uU (R := FzC b ds) (T := RepC cx.p ρ w) (U := RepC cx.p ρ' w) (fun _ _ _ h3 h4 => h3.rep hgo hz k1 hr h4) q3 r3⟩, p4⟩
 ·intro x x' m1 m2 hx hx' hm1 hm2 hn1 hn2 he
  rw [hf] at hm1 hm2
  exact h2.inj x x' m1 m2 (hlive x hx).2 (hlive x' hx').2 hm1 hm2 hn1 hn2 he
 ·intro x m1 hx hm1 hn1 hzz
  rw [hf] at hm1
  rcases hzb _ hzz with hz' | ⟨hn, hz'⟩
  ·exact h2.zf x m1 (hlive x hx).2 hm1 hn1 hz'
  ·exact (hlive x hx).1 (h2.inj x b m1 m (hlive x hx).2 (by rw [hb.S]; simp) hm1 k1 hn1 hn hz')
 ·intro k hk
  rcases hzb k hk with hz' | ⟨hn, rfl⟩
  ·exact h2.zm k hz'
  ·rcases k2 with ⟨k2, _⟩ | ⟨_, _, k4⟩
   ·rw [hn] at k2; cases k2
   ·exact k4
 ·intro k hk
  rcases hzb k hk with hz' | ⟨hn, rfl⟩
  ·exact h2.zl k hz'
  ·rcases k2 with ⟨k2, _⟩ | ⟨_, k3, _⟩
   ·rw [hn] at k2; cases k2
   ·exact k3.lt
theorem Fun.frz {f : FuncId} {xs : List E1} {g0 : List (Nat × Option Bk)} {g1 g1' : EH} {n0 n1 : Nat} {y y' : PV} (b : Nat) {T : TypeId} {ds : List D} (h : Fun f xs g0 n0 y (kF g1) n1) (hb : g1.lookup b = some (some (T, .ds ds))) (hg : FzG b ds (kF g1) (kF g1')) (hy : FzPV b ds y y') : Fun f xs g0 n0 y' (kF g1') n1 := by
 intro cx args hn hh ha
 refine (h cx args hn hh ha).mono ?_
 rintro e w' ⟨v, ρ', rfl, h1, h2, h3, h4, h5⟩
 obtain ⟨ρ2, q1, q2, q3⟩ := HRep.freeze (qV hb) hg h3
 exact ⟨v, ρ2, rfl, fun b m hb => by rw [q1]; exact h1 b m hb, fun b hb => by rw [q1]; exact h2 b hb, q2, h4, q3 _ _ _ hy h5⟩
inductive NlC : C → C → Prop where
 | same (c : C) : NlC c c
 | nil : NlC (.d (.lit (.slice none 0 0))) (.d (.sl [] 0))
inductive NlE : E1 → E1 → Prop where
 | same (x : E1) : NlE x x
 | c {x y : C} (h : NlC x y) : NlE (.c x) (.c y)
 | agg {xs ys : List C} (h : All2 NlC xs ys) : NlE (.agg xs) (.agg ys)
inductive NlPV : PV → PV → Prop where
 | e {x y : E1} (h : NlE x y) : NlPV (.e x) (.e y)
 | tup {xs ys : List E1} (h : All2 NlE xs ys) : NlPV (.tup xs) (.tup ys)
 | same (x : PV) : NlPV x x
theorem NlC.rep {p : Nat → Prop} {ρ : Rh} {w : World} {x y : C} (h : NlC x y) {v : Value} (hc : RepC p ρ w x v) : RepC p ρ w y v := by
 cases h with
 | same => exact hc
 | nil =>
  cases hc with
  | d h => cases h with
   | lit v h => exact .d (.nil none 0 (Nat.zero_le _) (fun _ => rfl))
theorem NlE.rep {p : Nat → Prop} {ρ : Rh} {w : World} {x y : E1} (h : NlE x y) {v : Value} (hc : RepE p ρ w x v) : RepE p ρ w y v := by
 cases h with
 | same => exact hc
 | c h => exact h.rep hc
 | agg h => obtain ⟨us, e, h2⟩ := hc; exact ⟨us, e, uU (R := NlC) (T := RepC p ρ w) (U := RepC p ρ w) (fun _ _ _ h3 h4 => h3.rep h4) h h2⟩
theorem NlPV.rep {p : Nat → Prop} {ρ : Rh} {w : World} {x y : PV} (h : NlPV x y) {v : Value} (hc : RepPV p ρ w x v) : RepPV p ρ w y v := by
 cases h with
 | e h => exact h.rep hc
 | tup h => obtain ⟨us, e, h2⟩ := hc; exact ⟨us, e, uU (R := NlE) (T := RepE p ρ w) (U := RepE p ρ w) (fun _ _ _ h3 h4 => h3.rep h4) h h2⟩
 | same => exact hc
theorem Fun.rel {f : FuncId} {xs : List E1} {g0 g1 : List (Nat × Option Bk)} {n0 n1 : Nat} {y y' : PV} (h : Fun f xs g0 n0 y g1 n1) (hy : NlPV y y') : Fun f xs g0 n0 y' g1 n1 := by
 intro cx args hn hh ha
 refine (h cx args hn hh ha).mono ?_
 rintro e w' ⟨v, ρ', rfl, h1, h2, h3, h4, h5⟩
 exact ⟨v, ρ', rfl, h1, h2, h3, h4, hy.rep h5⟩
theorem FzC.wh {b n : Nat} {k : IntKind} {l : List Int} {wh : Bool} (h : List.length l = n) : FzC b (dI k l) (.own b 0 n 1 wh) (.d (.sl (dI k l) n)) :=
 .own 0 n 1 wh (by rw [List.drop_zero, Nat.mul_one, List.take_of_length_le (by rw [qM]; omega)]) (by rw [qM]; omega)
theorem FzG.skip {b x : Nat} {ds : List D} {g g2 : EH} (hg : FzG b ds (kF g) (kF g2)) : FzG b ds (kF g) (kF ((x, none) :: g2)) := ⟨fun T cs' h => (by cases h), hg⟩
def NlS (l : List (Nat × PV)) : List (Nat × PV) → Prop
 | [] => True
 | (t, u) :: l2 => (∃ v, Look l t v ∧ NlPV v u) ∧ NlS l l2
theorem NlS.get {l : List (Nat × PV)} : ∀ {l2 : List (Nat × PV)}, NlS l l2 → ∀ x ∈ l2, ∃ v, Look l x.1 v ∧ NlPV v x.2
 | (t, u) :: l2, h, x, hx => by
  rcases List.mem_cons.1 hx with rfl | hx
  ·exact h.1
  ·exact NlS.get h.2 x hx
def NlG (g : List (Nat × Option Bk)) : List (Nat × Option Bk) → Prop
 | [] => True
 | (x, o) :: g2 => (∀ T cs', o = some (T, cs') → ∃ cs, Look g x (some (T, cs)) ∧ All2 NlC cs cs') ∧ NlG g g2
theorem NlG.get {g : List (Nat × Option Bk)} : ∀ {g2 : List (Nat × Option Bk)}, NlG g g2 → ∀ x ∈ g2, ∀ T cs', x.2 = some (T, cs') → ∃ cs, Look g x.1 (some (T, cs)) ∧ All2 NlC cs cs'
 | (t, u) :: l2, h, x, hx => by
  rcases List.mem_cons.1 hx with rfl | hx
  ·exact h.1
  ·exact NlG.get h.2 x hx
theorem aH {cx : Cx} {n nx : Nat} {c : Code} {Q : yP} {l l' : List (Nat × PV)} {g g' : EH} (hs : NlS l l') (hg : NlG (kF g) (kF g')) (h : AW cx n c Q ⟨l', kF g', nx⟩) : AW cx n c Q ⟨l, kF g, nx⟩ := by
 intro a w hm
 refine h a w ?_
 obtain ⟨ρ, h1, h2, h3, h4, h5, h6, h9⟩ := hm
 have hgl : ∀ x T' cs', S (kF g') x = some (T', cs') → ∃ cs, S (kF g) x = some (T', cs) ∧ All2 NlC cs cs' := by
  intro x T' cs' hx
  unfold Proofs.Ytdbjebdomdnbkaa.S at hx
  cases hl : (kF g').lookup x with
  | none => rw [hl] at hx; cases hx
  | some o =>
   rw [hl] at hx; simp at hx; subst hx
   obtain ⟨cs, q2, q3⟩ := hg.get _ (yA hl) T' cs' rfl
   exact ⟨cs, q2.S, q3⟩
 have hlive : ∀ x, S (kF g') x ≠ none → S (kF g) x ≠ none := by
  intro x hx
  obtain ⟨⟨T', cs'⟩, e⟩ := Option.ne_none_iff_exists'.1 hx
  obtain ⟨cs, q2, _⟩ := hgl x T' cs' e
  rw [q2]; simp
 refine ⟨ρ, h1, ⟨?_, ?_, ?_, h2.zm, h2.zl⟩, ?_, h4, h5, h6, h9⟩
 ·intro x T' cs' hx
  obtain ⟨cs, q2, q3⟩ := hgl x T' cs' hx
  obtain ⟨m', p1, p2⟩ := h2.row x T' cs q2
  refine ⟨m', p1, ?_⟩
  rcases p2 with ⟨p2, p3⟩ | ⟨p2, ⟨vs, rest, r1, r2, r3⟩, p4⟩
  ·subst p3
   cases cs' with
   | nil => exact .inl ⟨p2, rfl⟩
   | cons _ _ => cases q3
  ·exact .inr ⟨p2, ⟨vs, rest, r1, r2, uU (R := NlC) (T := RepC cx.p ρ w) (U := RepC cx.p ρ w) (fun _ _ _ h3 h4 => h3.rep h4) q3 r3⟩, p4⟩
 ·intro x x' m1 m2 hx hx' hm1 hm2 hn1 hn2 he
  exact h2.inj x x' m1 m2 (hlive x hx) (hlive x' hx') hm1 hm2 hn1 hn2 he
 ·intro x m1 hx hm1 hn1
  exact h2.zf x m1 (hlive x hx) hm1 hn1
 ·intro t
  unfold Proofs.Ytdbjebdomdnbkaa.S
  cases hl : l'.lookup t with
  | none => exact trivial
  | some u =>
   obtain ⟨v, q1, q2⟩ := hs.get _ (yA hl)
   have := h3 t
   rw [q1.S] at this
   exact q2.rep this
theorem NlS.nil {l : List (Nat × PV)} : NlS l [] := trivial
theorem NlS.cons {t : Nat} {l l2 : List (Nat × PV)} {u v : PV} (hl : l.lookup t = some v) (h : NlPV v u) (hs : NlS l l2) : NlS l ((t, u) :: l2) := ⟨⟨v, yQ hl, h⟩, hs⟩
theorem NlL.same : ∀ cs : List C, All2 NlC cs cs
 | [] => trivial
 | c :: cs => ⟨.same c, NlL.same cs⟩
theorem NlG.nil {g : EH} : NlG (kF g) (kF []) := trivial
theorem u6r {x : Nat} {g g2 : EH} {T : TypeId} {bc : BC} (hl : g.lookup x = some (some (T, bc))) (hg : NlG (kF g) (kF g2)) : NlG (kF g) (kF ((x, some (T, bc)) :: g2)) := by
 refine ⟨fun T' cs' h => ?_, hg⟩
 cases h
 exact ⟨bc.to, qV hl, NlL.same _⟩
theorem NlG.to {x : Nat} {g g2 : EH} {T : TypeId} {bc bc' : BC} (hl : g.lookup x = some (some (T, bc))) (h : All2 NlC bc.to bc'.to) (hg : NlG (kF g) (kF g2)) : NlG (kF g) (kF ((x, some (T, bc')) :: g2)) := by
 refine ⟨fun T' cs' h9 => ?_, hg⟩
 cases h9
 exact ⟨bc.to, qV hl, h⟩
theorem NlL.nil : All2 NlC [] [] := trivial
theorem NlL.cons {x y : C} {xs ys : List C} (h : NlC x y) (hs : All2 NlC xs ys) : All2 NlC (x :: xs) (y :: ys) := ⟨h, hs⟩
theorem dG (k : IntKind) (l : List Int) (off n : Nat) (h : off + n ≤ l.length) : List.take n (List.drop off (dI k l)) = (List.range n).map fun i => D.lit (.int k (List.getD l (off + i) 0)) := by
 rw [k92]
 unfold dI
 apply List.ext_getElem
 ·simp; omega
 ·intro i h1 h2
  have hi : i < n := by simpa using h2
  simp [List.getD_eq_getElem?_getD, List.getElem?_eq_getElem (show off + i < l.length by omega)]
end Go.Proofs.Ytdbjebdomdnbkaa
namespace Go.Proofs.Ytdbjebdomdnbkaa
open Go.ChangeShapes Go.WideShapes Go.ChangeAt Go.RowKit
set_option linter.unusedVariables false
set_option linter.unusedSimpArgs false
set_option maxHeartbeats 4000000
set_option maxRecDepth 100000
theorem k1s {l : List Int} {n j : Nat} : List.getD (List.drop n l) j 0 = List.getD l (n + j) 0 := by
  rw [List.getD_eq_getElem?_getD, List.getD_eq_getElem?_getD, List.getElem?_drop]
theorem k1r {l : List Int} {n j : Nat} (h : j < n) : List.getD (List.take n l) j 0 = List.getD l j 0 := by
  rw [List.getD_eq_getElem?_getD, List.getD_eq_getElem?_getD, List.getElem?_take, if_pos h]
theorem dB {l m : List Int} {j : Nat} (h : j < l.length) : List.getD (l ++ m) j 0 = List.getD l j 0 := by
  rw [List.getD_eq_getElem?_getD, List.getD_eq_getElem?_getD, List.getElem?_append_left h]
theorem xT {l m : List Int} {j : Nat} (h : l.length ≤ j) : List.getD (l ++ m) j 0 = List.getD m (j - l.length) 0 := by
  rw [List.getD_eq_getElem?_getD, List.getD_eq_getElem?_getD, List.getElem?_append_right h]
def Byt (l : List Int) : Prop := ∀ x ∈ l, 0 ≤ x ∧ x ≤ 255
theorem Byt.at {l : List Int} (h : Byt l) (j : Nat) (hj : j < List.length l) : 0 ≤ List.getD l j 0 ∧ List.getD l j 0 ≤ 255 := by
  rw [List.getD_eq_getElem?_getD, List.getElem?_eq_getElem hj]
  exact h _ (List.getElem_mem hj)
theorem Byt.nil : Byt [] := fun x h => by cases h
theorem Byt.cons {x : Int} {l : List Int} (h : 0 ≤ x ∧ x ≤ 255) (hl : Byt l) : Byt (x :: l) := fun y hy => by
  rcases List.mem_cons.1 hy with rfl | hy
  · exact h
  · exact hl y hy
theorem Byt.app {l m : List Int} (h : Byt l) (h2 : Byt m) : Byt (l ++ m) := fun x hx => (List.mem_append.1 hx).elim (h x) (h2 x)
theorem Byt.drop {l : List Int} (h : Byt l) (n : Nat) : Byt (List.drop n l) := fun x hx => h x (List.mem_of_mem_drop hx)
theorem Byt.take {l : List Int} (h : Byt l) (n : Nat) : Byt (List.take n l) := fun x hx => h x (List.mem_of_mem_take hx)
theorem Byt.rep (n : Nat) {x : Int} (h : 0 ≤ x ∧ x ≤ 255) : Byt (List.replicate n x) := fun y hy => by rw [(List.mem_replicate.1 hy).2]; exact h
theorem Byt.set {l : List Int} (h : Byt l) (n : Nat) {x : Int} (hx : 0 ≤ x ∧ x ≤ 255) : Byt (List.set l n x) := fun y hy => by
  rcases List.mem_or_eq_of_mem_set hy with hy | rfl
  · exact h y hy
  · exact hx
theorem u3f {l : List Int} (h : ∀ x ∈ l, 0 ≤ x ∧ x ≤ 255) : Byt l := h
def bsD (xs : List (List Int)) : List D := xs.map fun l => D.sl (dI .u8 l) l.length
theorem u2 (xs : List (List Int)) : (bsD xs).length = xs.length := by unfold bsD; simp
def BytL (xs : List (List Int)) : Prop := ∀ l ∈ xs, Byt l
theorem BytL.at {xs : List (List Int)} (h : BytL xs) (i : Nat) : Byt (List.getD xs i []) := by
  rw [List.getD_eq_getElem?_getD]
  cases e : xs[i]? with
  | none => exact Byt.nil
  | some l => exact h l (List.mem_of_getElem? e)
theorem BytL.nil : BytL [] := fun l h => by cases h
theorem BytL.snoc {xs : List (List Int)} {l : List Int} (h : BytL xs) (hl : Byt l) : BytL (xs ++ [l]) := fun m hm => (List.mem_append.1 hm).elim (h m) fun hm => by
  rw [List.mem_singleton.1 hm]; exact hl
theorem BytL.app {xs ys : List (List Int)} (h : BytL xs) (h2 : BytL ys) : BytL (xs ++ ys) := fun m hm => (List.mem_append.1 hm).elim (h m) (h2 m)
theorem BytL.take {xs : List (List Int)} (h : BytL xs) (n : Nat) : BytL (List.take n xs) := fun m hm => h m (List.mem_of_mem_take hm)
/-! texts told as bytes -/
theorem k1i {a b : Int} (ha : 0 ≤ a ∧ a ≤ 255) (hb : 0 ≤ b ∧ b ≤ 255) (h : UInt8.ofNat a.toNat = UInt8.ofNat b.toNat) : a = b := by
  have e := congrArg UInt8.toNat h
  rw [UInt8.toNat_ofNat', UInt8.toNat_ofNat'] at e
  omega
theorem tT : ∀ {a b : List Int}, Byt a → Byt b → a.map (fun n => UInt8.ofNat n.toNat) = b.map (fun n => UInt8.ofNat n.toNat) → a = b
  | [], [], _, _, _ => rfl
  | x :: xs, y :: ys, ha, hb, h => by
    rw [List.map_cons, List.map_cons, List.cons.injEq] at h
    rw [k1i (ha x (List.mem_cons_self ..)) (hb y (List.mem_cons_self ..)) h.1, tT (fun z hz => ha z (List.mem_cons_of_mem _ hz)) (fun z hz => hb z (List.mem_cons_of_mem _ hz)) h.2]
  | [], _ :: _, _, _, h => by cases h
  | _ :: _, [], _, _, h => by cases h
theorem u4m {a b : List Int} (h : a = b) : (ByteArray.toList (strOfNums a) == ByteArray.toList (strOfNums b)) = true := by subst h; simp
theorem u4n {a b : List Int} (ha : Byt a) (hb : Byt b) (h : ¬ a = b) : (ByteArray.toList (strOfNums a) == ByteArray.toList (strOfNums b)) = false := by
  rw [beq_eq_false_iff_ne]
  intro e
  rw [ByteArray.toList_eq, ByteArray.toList_eq, strOfNums_data, strOfNums_data] at e
  exact h (tT ha hb e)
@[reducible] def qJ (x : Int) : Prop := ((-9223372036854775808) ≤ x ∧ x ≤ 9223372036854775807)
theorem k2f (m : Nat) (hb : m ≤ 10000000) : Fun 74 [.c (.d (D.lit (.slice none 0 0))), iE ((m : Nat) : Int)] (kF []) 0 (oV 0 0 0 1) (kF [(0, some (5, .ds ([] : List D)))]) 1 := by
  refine Fun.mk (n := 27) Try.func74 rfl rfl (Nat.le_of_ble_eq_true rfl) ?_
  intro cx hcx
  refine kI [.no] True [(0, nV), (1, uV m)] [] 0 trivial ?_
  refine AW.seq ?_
  refine k8 [.no, .b false] (¬ ((m : Int) < 0)) [(0, nV), (1, uV m), (6, bV false)] zo ?_
  refine yC ?_
  refine AW.seq ?_
  refine k8 (kJ 5 [.w, .w, .no]) ((qJ (0 : Int)) ∧ (qJ ((m : Int) - 0))) [(0, nV), (1, iV (↑m - 0))] ⟨⟨by omega, by omega⟩, ⟨by omega, by omega⟩⟩ ?_
  by_cases hx1 : ((0 : Int) < (((m : Nat) : Int) - 0))
  · refine zr [.no, .b true] [0, 1, 16] [] (((0 : Int) < ((m : Int) - 0))) [(0, nV), (1, iV (↑m - 0)), (16, bV true)] [] 0 zo ?_
    refine zt ?_
    refine v7 (kJ 5 [.az (m - 0) 0 (dI .u8 (List.replicate (m - 0) 0)), .no, .no, .mk 0 0 ([] : List D), .no]) ((kP 0) ∧ ((0 : Int) = ((0 : Nat) : Int)) ∧ ((((m : Int) - 0) : Int) = (((m - 0) : Nat) : Int)) ∧ ((m - 0) * 1 ≤ 140737488355328) ∧ (List.replicate (m - 0) (D.lit (.int .u8 0)) = dI .u8 (List.replicate (m - 0) 0)) ∧ (kN 0) ∧ ((0 : Nat) ≤ (m - 0)) ∧ (List.take (0 * 1) ((dI .u8 (List.replicate (m - 0) 0)) : List D) = ([] : List D))) [(0, oV 0 0 0 1)] [(0, some (5, .ds ([] : List D)))] 1 ⟨rfl, zo, (by first | rfl | omega), zo, (dF _ _ _), rfl, zo, (by rw [Nat.zero_mul]; rfl)⟩ ?_
    refine k8 [.no, .no] True [(4, oV 0 0 0 1)] trivial ?_
    refine AW.ret ?_
    exact kC (.inr rfl) [] (P := (kP 0) ∧ (kP 0) ∧ (kZ ([] : List D))) zk ⟨rfl, rfl, rfl⟩
  · refine zr [.no, .b false] [0, 1, 16] [] (¬ ((0 : Int) < ((m : Int) - 0))) [(0, nV), (1, iV (↑m - 0)), (16, bV false)] [] 0 zo ?_
    refine yC ?_
    refine kI [.no, .no] True [(4, nV)] [] 0 trivial ?_
    refine AW.adoptS 4 1 5 rfl ?_
    refine AW.ret ?_
    exact kC (.inr rfl) [] (P := (kP 0) ∧ (kP 0) ∧ (kZ ([] : List D))) zk ⟨rfl, rfl, rfl⟩
theorem nJ {p : Prop} (h : p := by first | omega | (simp only [u2, qM, List.length_append, List.length_cons, List.length_nil, List.length_take, List.length_drop, List.length_replicate, List.length_set, List.length_map, List.length_reverse, Nat.mul_one] <;> omega) | rfl) : p := h
theorem sO (la lb lc : List Int) (na nb nc : Nat) (ha : List.length la = na) (hb : List.length lb = nb) (hc : List.length lc = nc) (ba : na ≤ 1000000) (bb : nb ≤ 1000000) (bc : nc ≤ 1000000) : Fun 59 [.c (.d (D.sl [D.sl (dI .u8 la) na, D.sl (dI .u8 lb) nb, D.sl (dI .u8 lc) nc] 3))] (kF []) 0 (oV 0 0 ((na + nb) + nc) 1) (kF [(0, some (5, .ds (dI .u8 ((la ++ lb) ++ lc))))]) 1 := by
  refine Fun.mk (n := 36) Try.func59 rfl rfl (Nat.le_of_ble_eq_true rfl) ?_
  intro cx hcx
  refine kI [.no] True [(0, qP [db la na, db lb nb, db lc nc] 3)] [] 0 trivial ?_
  refine k8 [.no] True [(0, qP [db la na, db lb nb, db lc nc] 3), (3, iV 0)] trivial ?_
  refine AW.seq ?_
  refine k8 [.no, .no, .no] True [(0, qP [db la na, db lb nb, db lc nc] 3), (3, iV 0), (9, qP [db la na, db lb nb, db lc nc] 3), (10, iV 3), (11, iV 0)] trivial ?_
  refine AW.block ?_
  refine AW.rounds 4 ?_
  refine AWr.s ?_
  refine kI [.b true] (((0 : Int) < 3)) [(0, qP [db la na, db lb nb, db lc nc] 3), (3, iV 0), (9, qP [db la na, db lb nb, db lc nc] 3), (10, iV 3), (11, iV 0), (12, bV true)] [] 0 zo ?_
  refine AW.seq ?_
  refine vD ?_
  refine AW.seq ?_
  refine AW.block ?_
  refine k8 [.n 0, .no, .no] ((kN 0) ∧ ((0 : Nat) < 3)) [(0, qP [db la na, db lb nb, db lc nc] 3), (3, iV 0), (5, sV .u8 la na), (9, qP [db la na, db lb nb, db lc nc] 3), (10, iV 3), (11, iV 0)] ⟨rfl, zo⟩ ?_
  refine k8 [.no, .no, .no, .wi (na : Int), .no] ((qJ (0 + (na : Int))) ∧ (((0 + (na : Int)) : Int) = (na : Int))) [(0, qP [db la na, db lb nb, db lc nc] 3), (3, uV na), (9, qP [db la na, db lb nb, db lc nc] 3), (10, iV 3), (11, iV 0)] ⟨⟨by omega, by omega⟩, zo⟩ ?_
  refine k8 [.no, .b false] (¬ ((na : Int) < 0)) [(0, qP [db la na, db lb nb, db lc nc] 3), (3, uV na), (9, qP [db la na, db lb nb, db lc nc] 3), (10, iV 3), (11, iV 0), (20, bV false)] zo ?_
  refine yC ?_
  refine yD [.w, .no] (qJ (1 : Int)) [(0, qP [db la na, db lb nb, db lc nc] 3), (3, uV na), (9, qP [db la na, db lb nb, db lc nc] 3), (10, iV 3), (11, iV 1)] ⟨by omega, by omega⟩ ?_
  refine AWr.s ?_
  refine kI [.b true] (((1 : Int) < 3)) [(0, qP [db la na, db lb nb, db lc nc] 3), (3, uV na), (9, qP [db la na, db lb nb, db lc nc] 3), (10, iV 3), (11, iV 1), (12, bV true)] [] 0 zo ?_
  refine AW.seq ?_
  refine vD ?_
  refine AW.seq ?_
  refine AW.block ?_
  refine k8 [.n 1, .no, .no] ((kN 1) ∧ ((1 : Nat) < 3)) [(0, qP [db la na, db lb nb, db lc nc] 3), (3, uV na), (5, sV .u8 lb nb), (9, qP [db la na, db lb nb, db lc nc] 3), (10, iV 3), (11, iV 1)] ⟨rfl, zo⟩ ?_
  refine k8 [.no, .no, .no, .wi (((na + nb) : Nat) : Int), .no] ((qJ ((na : Int) + (nb : Int))) ∧ ((((na : Int) + (nb : Int)) : Int) = (((na + nb) : Nat) : Int))) [(0, qP [db la na, db lb nb, db lc nc] 3), (3, uV (na + nb)), (9, qP [db la na, db lb nb, db lc nc] 3), (10, iV 3), (11, iV 1)] ⟨⟨by omega, by omega⟩, zo⟩ ?_
  refine k8 [.no, .b false] (¬ ((((na + nb) : Nat) : Int) < 0)) [(0, qP [db la na, db lb nb, db lc nc] 3), (3, uV (na + nb)), (9, qP [db la na, db lb nb, db lc nc] 3), (10, iV 3), (11, iV 1), (20, bV false)] zo ?_
  refine yC ?_
  refine yD [.w, .no] (qJ (2 : Int)) [(0, qP [db la na, db lb nb, db lc nc] 3), (3, uV (na + nb)), (9, qP [db la na, db lb nb, db lc nc] 3), (10, iV 3), (11, iV 2)] ⟨by omega, by omega⟩ ?_
  refine AWr.s ?_
  refine kI [.b true] (((2 : Int) < 3)) [(0, qP [db la na, db lb nb, db lc nc] 3), (3, uV (na + nb)), (9, qP [db la na, db lb nb, db lc nc] 3), (10, iV 3), (11, iV 2), (12, bV true)] [] 0 zo ?_
  refine AW.seq ?_
  refine vD ?_
  refine AW.seq ?_
  refine AW.block ?_
  refine k8 [.n 2, .no, .no] ((kN 2) ∧ ((2 : Nat) < 3)) [(0, qP [db la na, db lb nb, db lc nc] 3), (3, uV (na + nb)), (5, sV .u8 lc nc), (9, qP [db la na, db lb nb, db lc nc] 3), (10, iV 3), (11, iV 2)] ⟨rfl, zo⟩ ?_
  refine k8 [.no, .no, .no, .wi ((((na + nb) + nc) : Nat) : Int), .no] ((qJ ((((na + nb) : Nat) : Int) + (nc : Int))) ∧ ((((((na + nb) : Nat) : Int) + (nc : Int)) : Int) = ((((na + nb) + nc) : Nat) : Int))) [(0, qP [db la na, db lb nb, db lc nc] 3), (3, uV ((na + nb) + nc)), (9, qP [db la na, db lb nb, db lc nc] 3), (10, iV 3), (11, iV 2)] ⟨⟨by omega, by omega⟩, zo⟩ ?_
  refine k8 [.no, .b false] (¬ (((((na + nb) + nc) : Nat) : Int) < 0)) [(0, qP [db la na, db lb nb, db lc nc] 3), (3, uV ((na + nb) + nc)), (9, qP [db la na, db lb nb, db lc nc] 3), (10, iV 3), (11, iV 2), (20, bV false)] zo ?_
  refine yC ?_
  refine yD [.w, .no] (qJ (3 : Int)) [(0, qP [db la na, db lb nb, db lc nc] 3), (3, uV ((na + nb) + nc)), (9, qP [db la na, db lb nb, db lc nc] 3), (10, iV 3), (11, iV 3)] ⟨by omega, by omega⟩ ?_
  refine AWr.s ?_
  refine kI [.b false] (¬ ((3 : Int) < 3)) [(0, qP [db la na, db lb nb, db lc nc] 3), (3, uV ((na + nb) + nc)), (9, qP [db la na, db lb nb, db lc nc] 3), (10, iV 3), (11, iV 3), (12, bV false)] [] 0 zo ?_
  refine AW.seq ?_
  refine zf ?_
  refine AW.exit ?_
  refine kI [.no, .call [] (oV 0 0 0 1) [(0, some (5, .ds ([] : List D)))] 1 [some [D.lit (.bool true)]] none, .no] _ [(0, qP [db la na, db lb nb, db lc nc] 3), (6, oV 0 0 0 1)] [(0, some (5, .ds ([] : List D)))] 1 (k2f ((na + nb) + nc) zo) ?_
  refine AW.seq ?_
  refine k8 [.no, .no, .no] True [(6, oV 0 0 0 1), (25, qP [db la na, db lb nb, db lc nc] 3), (26, iV 3), (27, iV 0)] trivial ?_
  refine AW.block ?_
  refine AW.rounds 4 ?_
  refine AWr.s ?_
  refine kI [.b true] (((0 : Int) < 3)) [(6, oV 0 0 0 1), (25, qP [db la na, db lb nb, db lc nc] 3), (26, iV 3), (27, iV 0), (28, bV true)] [(0, some (5, .ds ([] : List D)))] 1 zo ?_
  refine AW.seq ?_
  refine vD ?_
  refine AW.seq ?_
  refine AW.block ?_
  refine k8 [.n 0, .no, .no] ((kN 0) ∧ ((0 : Nat) < 3)) [(6, oV 0 0 0 1), (8, sV .u8 la na), (25, qP [db la na, db lb nb, db lc nc] 3), (26, iV 3), (27, iV 0)] ⟨rfl, zo⟩ ?_
  refine v7 [.no, .no, .ap none (0 + na) (dI .u8 la), .no] (((dI .u8 la).length = na * 1) ∧ ((([] : List D) : List D).length = 0 * 1) ∧ ((0 + na) * 1 ≤ 140737488355328) ∧ ((0 : Nat) + na = (0 + na)) ∧ ((([] : List D) : List D) ++ (dI .u8 la) = (dI .u8 la))) [(6, oV 1 0 (0 + na) 1), (25, qP [db la na, db lb nb, db lc nc] 3), (26, iV 3), (27, iV 0)] [(1, some (5, .ds (dI .u8 la)))] 2 ⟨nJ, nJ, zo, zo, rfl⟩ ?_
  refine yD [.w, .no] (qJ (1 : Int)) [(6, oV 1 0 (0 + na) 1), (25, qP [db la na, db lb nb, db lc nc] 3), (26, iV 3), (27, iV 1)] ⟨by omega, by omega⟩ ?_
  refine AWr.s ?_
  refine kI [.b true] (((1 : Int) < 3)) [(6, oV 1 0 (0 + na) 1), (25, qP [db la na, db lb nb, db lc nc] 3), (26, iV 3), (27, iV 1), (28, bV true)] [(1, some (5, .ds (dI .u8 la)))] 2 zo ?_
  refine AW.seq ?_
  refine vD ?_
  refine AW.seq ?_
  refine AW.block ?_
  refine k8 [.n 1, .no, .no] ((kN 1) ∧ ((1 : Nat) < 3)) [(6, oV 1 0 (0 + na) 1), (8, sV .u8 lb nb), (25, qP [db la na, db lb nb, db lc nc] 3), (26, iV 3), (27, iV 1)] ⟨rfl, zo⟩ ?_
  refine v7 [.no, .no, .ap none ((0 + na) + nb) (dI .u8 (la ++ lb)), .no] (((dI .u8 lb).length = nb * 1) ∧ (((dI .u8 la) : List D).length = (0 + na) * 1) ∧ (((0 + na) + nb) * 1 ≤ 140737488355328) ∧ ((0 + na) + nb = ((0 + na) + nb)) ∧ (((dI .u8 la) : List D) ++ (dI .u8 lb) = (dI .u8 (la ++ lb)))) [(6, oV 2 0 ((0 + na) + nb) 1), (25, qP [db la na, db lb nb, db lc nc] 3), (26, iV 3), (27, iV 1)] [(2, some (5, .ds (dI .u8 (la ++ lb))))] 3 ⟨nJ, nJ, zo, zo, (qT .u8 la lb)⟩ ?_
  refine yD [.w, .no] (qJ (2 : Int)) [(6, oV 2 0 ((0 + na) + nb) 1), (25, qP [db la na, db lb nb, db lc nc] 3), (26, iV 3), (27, iV 2)] ⟨by omega, by omega⟩ ?_
  refine AWr.s ?_
  refine kI [.b true] (((2 : Int) < 3)) [(6, oV 2 0 ((0 + na) + nb) 1), (25, qP [db la na, db lb nb, db lc nc] 3), (26, iV 3), (27, iV 2), (28, bV true)] [(2, some (5, .ds (dI .u8 (la ++ lb))))] 3 zo ?_
  refine AW.seq ?_
  refine vD ?_
  refine AW.seq ?_
  refine AW.block ?_
  refine k8 [.n 2, .no, .no] ((kN 2) ∧ ((2 : Nat) < 3)) [(6, oV 2 0 ((0 + na) + nb) 1), (8, sV .u8 lc nc), (25, qP [db la na, db lb nb, db lc nc] 3), (26, iV 3), (27, iV 2)] ⟨rfl, zo⟩ ?_
  refine v7 [.no, .no, .ap none (((0 + na) + nb) + nc) (dI .u8 ((la ++ lb) ++ lc)), .no] (((dI .u8 lc).length = nc * 1) ∧ (((dI .u8 (la ++ lb)) : List D).length = ((0 + na) + nb) * 1) ∧ ((((0 + na) + nb) + nc) * 1 ≤ 140737488355328) ∧ (((0 + na) + nb) + nc = (((0 + na) + nb) + nc)) ∧ (((dI .u8 (la ++ lb)) : List D) ++ (dI .u8 lc) = (dI .u8 ((la ++ lb) ++ lc)))) [(6, oV 3 0 (((0 + na) + nb) + nc) 1), (25, qP [db la na, db lb nb, db lc nc] 3), (26, iV 3), (27, iV 2)] [(3, some (5, .ds (dI .u8 ((la ++ lb) ++ lc))))] 4 ⟨nJ, nJ, zo, zo, (qT .u8 (la ++ lb) lc)⟩ ?_
  refine yD [.w, .no] (qJ (3 : Int)) [(6, oV 3 0 (((0 + na) + nb) + nc) 1), (25, qP [db la na, db lb nb, db lc nc] 3), (26, iV 3), (27, iV 3)] ⟨by omega, by omega⟩ ?_
  refine AWr.s ?_
  refine kI [.b false] (¬ ((3 : Int) < 3)) [(6, oV 3 0 (((0 + na) + nb) + nc) 1), (25, qP [db la na, db lb nb, db lc nc] 3), (26, iV 3), (27, iV 3), (28, bV false)] [(3, some (5, .ds (dI .u8 ((la ++ lb) ++ lc))))] 4 zo ?_
  refine AW.seq ?_
  refine zf ?_
  refine AW.exit ?_
  refine kI [.no, .no] True [(2, oV 3 0 (((0 + na) + nb) + nc) 1)] [(3, some (5, .ds (dI .u8 ((la ++ lb) ++ lc))))] 4 trivial ?_
  refine AW.ret ?_
  exact kC (.inr rfl) [(0, 3)] (P := (kP 0) ∧ ((((na + nb) + nc) : Nat) = (((0 + na) + nb) + nc)) ∧ (kZ (dI .u8 ((la ++ lb) ++ lc)))) zk ⟨rfl, (by first | omega | rfl | assumption | (simp; done) | (simp; omega)), rfl⟩
end Go.Proofs.Ytdbjebdomdnbkaa
