/- A memory told by names: the operations, one by one. No statement is proved here. -/
import Derived.Test.YtkjmlililpgamaaZAm3
import Derived.Laws.Cover1
import Derived.IntWalk
namespace Go.Proofs.Ytkjmlililpgamaa
open Go.ChangeShapes Go.WideShapes Go.ChangeAt Go.RowKit
set_option linter.unusedVariables false
set_option linter.unusedSimpArgs false
abbrev LV (v : Value) : PV := .e (.c (.d (.lit v)))
abbrev LC (v : Value) : C := .d (.lit v)
abbrev vI : Value := .slice none 0 0
inductive Ev (l : List (Nat × PV)) : Operand → PV → Prop where
 | tmp {t : Nat} {u : PV} (h : Look l t u) : Ev l (.tmp t) u
 | lit {v : Value} (h : v.oneCell' = true) : Ev l (.const v) (LV v)
 | fn {f : FuncId} (h : Nat.blt f d3 = true) : Ev l (.func f) (.e (.c (.fn f [])))
 | gl {g : Nat} {vs : List Value} (h : f7.lookup g = some vs) : Ev l (.global g) (.e (.c (.rp (vs.map .lit))))
abbrev uP (p : Nat → Prop) (ρ : Rh) (w : World) (l : List (Nat × PV)) (xs : Array Operand) (a : Act) : Prop := (∀ t ∈ fG xs, RepPV p ρ w (S l t) (a.tmps.getD t undef)) ∧ GlOK p w
theorem pO {xs : Array Operand} {t : Nat} (h : Operand.tmp t ∈ xs.toList) : t ∈ fG xs := List.mem_filterMap.2 ⟨_, h, rfl⟩
theorem Ev.rep {p : Nat → Prop} {ρ : Rh} {w : World} {l : List (Nat × PV)} {xs : Array Operand} {a : Act} {x : Operand} {u : PV} (h : Ev l x u) (hs : uP p ρ w l xs a) (hx : x ∈ xs.toList) : RepPV p ρ w u (a.eval x) := by
 cases h with
 | @tmp t u h => have := hs.1 t (pO hx); rw [h.S] at this; exact this
 | lit h => exact .d (.lit _ h)
 | @fn f h =>
  have h9 : RepC p ρ w (.fn f []) (rB f []) := .fn f [] [] trivial
  rw [j8 h] at h9
  exact h9
 | @gl g vs h =>
  obtain ⟨h1, h2, _, h3⟩ := hs.2 (g, vs) (Look.mem (qJ h))
  exact RepC.rp (vs.map .lit) vs g 0 (by simp) (fun i u hu => by rw [Nat.zero_add]; exact (h3 i u hu).2) (fun i d u hd hu => by
   rw [List.getElem?_map, hu] at hd
   cases hd
   exact .lit u (h3 i u hu).1) (.inl h1) h2
theorem oU {p : Nat → Prop} {ρ : Rh} {w : World} {f : FuncId} {qs : List (Nat × Nat)} {v : Value} (h : RepPV p ρ w (.e (.c (.fn f qs))) v) : ∃ us : List Value, v = rB f us ∧ All2 (tV ρ) qs us := by
 cases h with
 | fn _ _ us hq => exact ⟨us, rfl, hq⟩
theorem kG {p : Nat → Prop} {ρ : Rh} {w : World} {v v' : Value} (h : RepPV p ρ w (LV v) v') : v' = v := by
 cases h with
 | d h => cases h; rfl
theorem qC {p : Nat → Prop} {ρ : Rh} {w : World} {v : Value} (h : v.oneCell' = true) : RepPV p ρ w (LV v) v := .d (.lit _ h)
section
variable {cx : Cx} {o : Oper} {l : List (Nat × PV)} {g : List (Nat × Option Bk)}
theorem kJ {u : PV} (H : ∀ ρ a w, uP cx.p ρ w l o.op.operands a → ∃ v, (execOp a.eval o).run Try.prog w = .ok (.value v) w ∧ RepPV cx.p ρ w u v) : OpOK cx o (S l) (S g) ⟨u, [], [], []⟩ := by
 intro Q ρ a w hL h1 _ _ h4 h5 hdf K hK
 obtain ⟨v, hv, hr⟩ := H ρ a w h1
 exact cH v hv (hK v w ρ (Goes.refl _ _ _) (fun _ _ h => h) h4 h5 hr)
theorem fS {u : PV} {foot : List Nat} (H : ∀ ρ a w hL, uP cx.p ρ w l o.op.operands a → (∀ b ∈ foot, hL b = S g b) → HRep cx ρ w hL → ∃ v, (execOp a.eval o).run Try.prog w = .ok (.value v) w ∧ RepPV cx.p ρ w u v) : OpOK cx o (S l) (S g) ⟨u, [], [], foot⟩ := by
 intro Q ρ a w hL h1 h2 _ h4 h5 hdf K hK
 obtain ⟨v, hv, hr⟩ := H ρ a w hL h1 h2 h4
 exact cH v hv (hK v w ρ (Goes.refl _ _ _) (fun _ _ h => h) h4 h5 hr)
theorem wM {x : Operand} {u : PV} (ho : o.op = .move x) (hx : Ev l x u) : OpOK cx o (S l) (S g) ⟨u, [], [], []⟩ :=
 kJ fun ρ a w hs => ⟨a.eval x, by unfold execOp; simp only [ho]; rfl, hx.rep hs (by rw [ho]; simp [Op.operands])⟩
theorem nC {x : Operand} {u : PV} (ho : o.op = .assign x) (hx : Ev l x u) : OpOK cx o (S l) (S g) ⟨u, [], [], []⟩ :=
 kJ fun ρ a w hs => ⟨a.eval x, by unfold execOp; simp only [ho]; rfl, hx.rep hs (by rw [ho]; simp [Op.operands])⟩
theorem k09 {xt : TypeId} {x : Operand} {b c : Bool} (ho : o.op = .unOp .not xt x) (hx : Ev l x (LV (.bool b))) (hc : (!b) = c) : OpOK cx o (S l) (S g) ⟨LV (.bool c), [], [], []⟩ :=
 kJ fun ρ a w hs => ⟨.bool c, by
  have e := kG (hx.rep hs (by rw [ho]; simp [Op.operands]))
  subst hc
  unfold execOp; simp only [ho, e]; rfl, qC rfl⟩
theorem k0a {xt : TypeId} {x : Operand} {k : IntKind} {n r : Int} (ho : o.op = .unOp .neg xt x) (hx : Ev l x (LV (.int k n))) (hc : k.wrap (0 - n) = r) : OpOK cx o (S l) (S g) ⟨LV (.int k r), [], [], []⟩ :=
 kJ fun ρ a w hs => ⟨.int k r, by
  have e := kG (hx.rep hs (by rw [ho]; simp [Op.operands]))
  subst hc
  unfold execOp; simp only [ho, e]; rfl, qC rfl⟩
theorem eE {c x y : Operand} {u : PV} (ho : o.op = .pick c x y) (hc : Ev l c (LV (.bool true))) (hx : Ev l x u) : OpOK cx o (S l) (S g) ⟨u, [], [], []⟩ :=
 kJ fun ρ a w hs => by
  have e := kG (hc.rep hs (by rw [ho]; simp [Op.operands]))
  exact ⟨_, by unfold execOp; simp [ho, e, asBool], hx.rep hs (by rw [ho]; simp [Op.operands])⟩
theorem eF {c x y : Operand} {v : PV} (ho : o.op = .pick c x y) (hc : Ev l c (LV (.bool false))) (hy : Ev l y v) : OpOK cx o (S l) (S g) ⟨v, [], [], []⟩ :=
 kJ fun ρ a w hs => by
  have e := kG (hc.rep hs (by rw [ho]; simp [Op.operands]))
  exact ⟨_, by unfold execOp; simp [ho, e, asBool], hy.rep hs (by rw [ho]; simp [Op.operands])⟩
abbrev dR (op : BinOp) (xt : TypeId) (x y : Operand) (v1 v2 r : Value) : Prop := ∀ w, (eqGuard op xt x y v1 v2 >>= fun _ => binOp op xt v1 v2 : Sem Value).run Try.prog w = .ok r w
theorem j2 {op : BinOp} {xt yt : TypeId} {x y : Operand} {v1 v2 r : Value} (ho : o.op = .binOp op xt x y yt) (hx : Ev l x (LV v1)) (hy : Ev l y (LV v2)) (hr : dR op xt x y v1 v2 r) (h1 : r.oneCell' = true) : OpOK cx o (S l) (S g) ⟨LV r, [], [], []⟩ :=
 kJ fun ρ a w hs => ⟨r, by
  have e1 := kG (hx.rep hs (by rw [ho]; simp [Op.operands]))
  have e2 := kG (hy.rep hs (by rw [ho]; simp [Op.operands]))
  unfold execOp; simp only [ho, e1, e2]
  rw [Sem.run_bind, hr w]; rfl, qC h1⟩
section
variable {xt : TypeId} {x y : Operand} {k : IntKind} {a b r : Int} {c : Bool}
theorem k29 (h : k.wrap (a + b) = r) : dR .add xt x y (.int k a) (.int k b) (.int k r) := by intro w; subst h; simp [eqGuard, binOp, Op.intArith]
theorem k21 (h : k.wrap (a - b) = r) : dR .sub xt x y (.int k a) (.int k b) (.int k r) := by intro w; subst h; simp [eqGuard, binOp, Op.intArith]
theorem k23 (h : k.wrap (a * b) = r) : dR .mul xt x y (.int k a) (.int k b) (.int k r) := by intro w; subst h; simp [eqGuard, binOp, Op.intArith]
theorem zC (hb : ¬ b = 0) (h : k.wrap (a.tdiv b) = r) : dR .quo xt x y (.int k a) (.int k b) (.int k r) := by intro w; subst h; simp [eqGuard, binOp, Op.intDiv, hb]
theorem oX (hb : ¬ b = 0) (h : a.tmod b = r) : dR .rem xt x y (.int k a) (.int k b) (.int k r) := by intro w; subst h; simp [eqGuard, binOp, Op.intDiv, hb]
theorem k28 (h : decide (a = b) = c) : dR .eql xt x y (.int k a) (.int k b) (.bool c) := by intro w; subst h; simp [eqGuard, binOp, Op.intCmp]; rfl
theorem k22 (h : decide (a ≠ b) = c) : dR .neq xt x y (.int k a) (.int k b) (.bool c) := by
 intro w; subst h; simp [eqGuard, binOp, Op.intCmp]
 by_cases h : a = b <;> simp [h]
theorem k24 (h : decide (a < b) = c) : dR .lss xt x y (.int k a) (.int k b) (.bool c) := by intro w; subst h; simp [eqGuard, binOp, Op.intCmp]
theorem k25 (h : decide (a ≤ b) = c) : dR .leq xt x y (.int k a) (.int k b) (.bool c) := by intro w; subst h; simp [eqGuard, binOp, Op.intCmp]
theorem k26 (h : decide (b < a) = c) : dR .gtr xt x y (.int k a) (.int k b) (.bool c) := by intro w; subst h; simp [eqGuard, binOp, Op.intCmp]
theorem k27 (h : decide (b ≤ a) = c) : dR .geq xt x y (.int k a) (.int k b) (.bool c) := by intro w; subst h; simp [eqGuard, binOp, Op.intCmp]
end
theorem k03 {xt : TypeId} {x y : Operand} {a b c : Bool} (hu : Try.prog.underlying xt = some .bool) (h : (a == b) = c) : dR .eql xt x y (.bool a) (.bool b) (.bool c) := by intro w; subst h; simp [eqGuard, binOp, run_equal_bool, hu]
theorem k02 {xt : TypeId} {x y : Operand} {a b c : Bool} (hu : Try.prog.underlying xt = some .bool) (h : (!(a == b)) = c) : dR .neq xt x y (.bool a) (.bool b) (.bool c) := by intro w; subst h; simp [eqGuard, binOp, run_equal_bool, hu]
theorem iC {src dst : TypeId} {x : Operand} {j k : IntKind} {n r : Int} (ho : o.op = .convert src dst x) (hd : Try.prog.underlying dst = some (.int k)) (hs' : (Try.prog.underlying src).isSome = true) (hx : Ev l x (LV (.int j n))) (hr : k.wrap n = r) : OpOK cx o (S l) (S g) ⟨LV (.int k r), [], [], []⟩ :=
 kJ fun ρ a w hs => ⟨.int k r, by
  have e1 := kG (hx.rep hs (by rw [ho]; simp [Op.operands]))
  subst hr
  obtain ⟨ds, hds⟩ := Option.isSome_iff_exists.1 hs'
  unfold execOp; simp only [ho, e1]
  simp [convert, run_underlying hd, run_underlying hds, Conv.intToInt], qC rfl⟩
theorem j1 {x : Operand} {i : Nat} {es : List E1} {e : E1} (ho : o.op = .extract x i) (hx : Ev l x (.tup es)) (he : es[i]? = some e) : OpOK cx o (S l) (S g) ⟨.e e, [], [], []⟩ :=
 kJ fun ρ a w hs => by
  obtain ⟨us, h1, h2⟩ := hx.rep hs (by rw [ho]; simp [Op.operands])
  have hi : i < us.length := by have := (List.getElem?_eq_some_iff.1 he).1; rw [← h2.len]; exact this
  exact ⟨us[i], by unfold execOp; simp [ho, h1, Instr.extract, hi], h2.get i e us[i] he (List.getElem?_eq_getElem hi)⟩
theorem j0 {x : Operand} {ty st : TypeId} {ts : Array TypeId} {n : Nat} {u : PV} (ho : o.op = .call { callee := .builtin .len, args := #[x], argTypes := #[st] }) (hu : Try.prog.underlying st = some (.slice (Try.prog.elem st))) (hx : Ev l x u) (hn : ∀ p ρ w v, RepPV p ρ w u v → ∃ a c, v = .slice a n c) :
  OpOK cx o (S l) (S g) ⟨LV (.int .i64 n), [], [], []⟩ :=
 kJ fun ρ a w hs => by
  obtain ⟨ad, c, e⟩ := hn _ _ _ _ (hx.rep hs (by rw [ho]; simp [Op.operands, Call.operands]))
  exact ⟨.int .i64 n, by unfold execOp; simp [ho, resolve, invoke, builtin, e, run_len_slice, hu, goInt], qC rfl⟩
theorem wX : ∀ p ρ w v, RepPV p ρ w (LV vI) v → ∃ a c, v = .slice a 0 c := fun p ρ w v h => ⟨_, _, kG h⟩
theorem wW {b off n s : Nat} {wh : Bool} : ∀ p ρ w v, RepPV p ρ w (.e (.c (.own b off n s wh))) v → ∃ a c, v = .slice a n c := by
 intro p ρ w v h; cases h <;> exact ⟨_, _, rfl⟩
theorem k0h {ds : List D} {n : Nat} : ∀ p ρ w v, RepPV p ρ w (.e (.c (.d (.sl ds n)))) v → ∃ a c, v = .slice a n c := by
 intro p ρ w v h; cases h with | d h => cases h <;> exact ⟨_, _, rfl⟩
theorem o9 {x y : Operand} {ts : Array TypeId} {k : IntKind} {a b r : Int} (ho : o.op = .call { callee := .builtin .min, args := #[x, y], argTypes := ts }) (hx : Ev l x (LV (.int k a))) (hy : Ev l y (LV (.int k b))) (hr : (if b < a then b else a) = r) : OpOK cx o (S l) (S g) ⟨LV (.int k r), [], [], []⟩ :=
 kJ fun ρ a w hs => ⟨.int k r, by
  have e1 := kG (hx.rep hs (by rw [ho]; simp [Op.operands, Call.operands]))
  have e2 := kG (hy.rep hs (by rw [ho]; simp [Op.operands, Call.operands]))
  subst hr
  unfold execOp; simp [ho, resolve, invoke, builtin, e1, e2, run_min_int2], qC rfl⟩
theorem pA {x y : Operand} {ts : Array TypeId} {k : IntKind} {a b r : Int} (ho : o.op = .call { callee := .builtin .max, args := #[x, y], argTypes := ts }) (hx : Ev l x (LV (.int k a))) (hy : Ev l y (LV (.int k b))) (hr : (if a < b then b else a) = r) : OpOK cx o (S l) (S g) ⟨LV (.int k r), [], [], []⟩ :=
 kJ fun ρ a w hs => ⟨.int k r, by
  have e1 := kG (hx.rep hs (by rw [ho]; simp [Op.operands, Call.operands]))
  have e2 := kG (hy.rep hs (by rw [ho]; simp [Op.operands, Call.operands]))
  subst hr
  unfold execOp; simp [ho, resolve, invoke, builtin, e1, e2, run_max_int2], qC rfl⟩
end
end Go.Proofs.Ytkjmlililpgamaa
