/- Merged texts. -/
import Derived.Test.YtdbjebdomdnbkaaZAm3
import Derived.Laws.Cover1
import Derived.IntWalk
import Derived.Laws.AppendOwnNone
namespace Go.Proofs.Ytdbjebdomdnbkaa
open Go.ChangeShapes Go.WideShapes Go.ChangeAt Go.RowKit
set_option linter.unusedVariables false
set_option linter.unusedSimpArgs false
abbrev LV (v : Value) : PV := .e (.c (.d (.lit v)))
abbrev LC (v : Value) : C := .d (.lit v)
abbrev aT : Value := .slice none 0 0
inductive Ev (l : List (Nat × PV)) : Operand → PV → Prop where
 | tmp {t : Nat} {u : PV} (h : Look l t u) : Ev l (.tmp t) u
 | lit {v : Value} (h : v.oneCell' = true) : Ev l (.const v) (LV v)
 | fn {f : FuncId} (h : Nat.blt f nE = true) : Ev l (.func f) (.e (.c (.fn f [])))
 | gl {g : Nat} {vs : List Value} (h : rN.lookup g = some vs) : Ev l (.global g) (.e (.c (.rp (vs.map .lit))))
abbrev aL (p : Nat → Prop) (ρ : Rh) (w : World) (l : List (Nat × PV)) (xs : Array Operand) (a : Act) : Prop := (∀ t ∈ pH xs, RepPV p ρ w (S l t) (a.tmps.getD t undef)) ∧ GlOK p w
theorem k41 {xs : Array Operand} {t : Nat} (h : Operand.tmp t ∈ xs.toList) : t ∈ pH xs := List.mem_filterMap.2 ⟨_, h, rfl⟩
theorem Ev.rep {p : Nat → Prop} {ρ : Rh} {w : World} {l : List (Nat × PV)} {xs : Array Operand} {a : Act} {x : Operand} {u : PV} (h : Ev l x u) (hs : aL p ρ w l xs a) (hx : x ∈ xs.toList) : RepPV p ρ w u (a.eval x) := by
 cases h with
 | @tmp t u h => have := hs.1 t (k41 hx); rw [h.S] at this; exact this
 | lit h => exact .d (.lit _ h)
 | @fn f h =>
  have h9 : RepC p ρ w (.fn f []) (fnV f []) := .fn f [] [] trivial
  rw [xU h] at h9
  exact h9
 | @gl g vs h =>
  obtain ⟨h1, h2, _, h3⟩ := hs.2 (g, vs) (Look.mem (yQ h))
  exact RepC.rp (vs.map .lit) vs g 0 (by simp) (fun i u hu => by rw [Nat.zero_add]; exact (h3 i u hu).2) (fun i d u hd hu => by
   rw [List.getElem?_map, hu] at hd
   cases hd
   exact .lit u (h3 i u hu).1) (.inl h1) h2
theorem k31 {p : Nat → Prop} {ρ : Rh} {w : World} {f : FuncId} {qs : List (Nat × Nat)} {v : Value} (h : RepPV p ρ w (.e (.c (.fn f qs))) v) : ∃ us : List Value, v = fnV f us ∧ All2 (k6t ρ) qs us := by
 cases h with
 | fn _ _ us hq => exact ⟨us, rfl, hq⟩
theorem qC {p : Nat → Prop} {ρ : Rh} {w : World} {v v' : Value} (h : RepPV p ρ w (LV v) v') : v' = v := by
 cases h with
 | d h => cases h; rfl
theorem uN {p : Nat → Prop} {ρ : Rh} {w : World} {v : Value} (h : v.oneCell' = true) : RepPV p ρ w (LV v) v := .d (.lit _ h)
section
variable {cx : Cx} {o : Oper} {l : List (Nat × PV)} {g : List (Nat × Option Bk)}
theorem qK {u : PV} (H : ∀ ρ a w, aL cx.p ρ w l o.op.operands a → ∃ v, (execOp a.eval o).run Try.prog w = .ok (.value v) w ∧ RepPV cx.p ρ w u v) : OpOK cx o (S l) (S g) ⟨u, [], [], []⟩ := by
 intro Q ρ a w hL h1 _ _ h4 h5 hdf K hK
 obtain ⟨v, hv, hr⟩ := H ρ a w h1
 exact lD v hv (hK v w ρ (Goes.refl _ _ _) (fun _ _ h => h) h4 h5 hr)
theorem pY {u : PV} {foot : List Nat} (H : ∀ ρ a w hL, aL cx.p ρ w l o.op.operands a → (∀ b ∈ foot, hL b = S g b) → HRep cx ρ w hL → ∃ v, (execOp a.eval o).run Try.prog w = .ok (.value v) w ∧ RepPV cx.p ρ w u v) : OpOK cx o (S l) (S g) ⟨u, [], [], foot⟩ := by
 intro Q ρ a w hL h1 h2 _ h4 h5 hdf K hK
 obtain ⟨v, hv, hr⟩ := H ρ a w hL h1 h2 h4
 exact lD v hv (hK v w ρ (Goes.refl _ _ _) (fun _ _ h => h) h4 h5 hr)
theorem k7n {x : Operand} {u : PV} (ho : o.op = .move x) (hx : Ev l x u) : OpOK cx o (S l) (S g) ⟨u, [], [], []⟩ :=
 qK fun ρ a w hs => ⟨a.eval x, by unfold execOp; simp only [ho]; rfl, hx.rep hs (by rw [ho]; simp [Op.operands])⟩
theorem k1f {x : Operand} {u : PV} (ho : o.op = .assign x) (hx : Ev l x u) : OpOK cx o (S l) (S g) ⟨u, [], [], []⟩ :=
 qK fun ρ a w hs => ⟨a.eval x, by unfold execOp; simp only [ho]; rfl, hx.rep hs (by rw [ho]; simp [Op.operands])⟩
theorem u1t {xt : TypeId} {x : Operand} {b c : Bool} (ho : o.op = .unOp .not xt x) (hx : Ev l x (LV (.bool b))) (hc : (!b) = c) : OpOK cx o (S l) (S g) ⟨LV (.bool c), [], [], []⟩ :=
 qK fun ρ a w hs => ⟨.bool c, by
  have e := qC (hx.rep hs (by rw [ho]; simp [Op.operands]))
  subst hc
  unfold execOp; simp only [ho, e]; rfl, uN rfl⟩
theorem u1u {xt : TypeId} {x : Operand} {k : IntKind} {n r : Int} (ho : o.op = .unOp .neg xt x) (hx : Ev l x (LV (.int k n))) (hc : k.wrap (0 - n) = r) : OpOK cx o (S l) (S g) ⟨LV (.int k r), [], [], []⟩ :=
 qK fun ρ a w hs => ⟨.int k r, by
  have e := qC (hx.rep hs (by rw [ho]; simp [Op.operands]))
  subst hc
  unfold execOp; simp only [ho, e]; rfl, uN rfl⟩
theorem nW {c x y : Operand} {u : PV} (ho : o.op = .pick c x y) (hc : Ev l c (LV (.bool true))) (hx : Ev l x u) : OpOK cx o (S l) (S g) ⟨u, [], [], []⟩ :=
 qK fun ρ a w hs => by
  have e := qC (hc.rep hs (by rw [ho]; simp [Op.operands]))
  exact ⟨_, by unfold execOp; simp [ho, e, asBool], hx.rep hs (by rw [ho]; simp [Op.operands])⟩
theorem nX {c x y : Operand} {v : PV} (ho : o.op = .pick c x y) (hc : Ev l c (LV (.bool false))) (hy : Ev l y v) : OpOK cx o (S l) (S g) ⟨v, [], [], []⟩ :=
 qK fun ρ a w hs => by
  have e := qC (hc.rep hs (by rw [ho]; simp [Op.operands]))
  exact ⟨_, by unfold execOp; simp [ho, e, asBool], hy.rep hs (by rw [ho]; simp [Op.operands])⟩
abbrev mZ (op : BinOp) (xt : TypeId) (x y : Operand) (v1 v2 r : Value) : Prop := ∀ w, (eqGuard op xt x y v1 v2 >>= fun _ => binOp op xt v1 v2 : Sem Value).run Try.prog w = .ok r w
theorem xJ {op : BinOp} {xt yt : TypeId} {x y : Operand} {v1 v2 r : Value} (ho : o.op = .binOp op xt x y yt) (hx : Ev l x (LV v1)) (hy : Ev l y (LV v2)) (hr : mZ op xt x y v1 v2 r) (h1 : r.oneCell' = true) : OpOK cx o (S l) (S g) ⟨LV r, [], [], []⟩ :=
 qK fun ρ a w hs => ⟨r, by
  have e1 := qC (hx.rep hs (by rw [ho]; simp [Op.operands]))
  have e2 := qC (hy.rep hs (by rw [ho]; simp [Op.operands]))
  unfold execOp; simp only [ho, e1, e2]
  rw [Sem.run_bind, hr w]; rfl, uN h1⟩
section
variable {xt : TypeId} {x y : Operand} {k : IntKind} {a b r : Int} {c : Bool}
theorem u56 (h : k.wrap (a + b) = r) : mZ .add xt x y (.int k a) (.int k b) (.int k r) := by intro w; subst h; simp [eqGuard, binOp, Op.intArith]
theorem u4y (h : k.wrap (a - b) = r) : mZ .sub xt x y (.int k a) (.int k b) (.int k r) := by intro w; subst h; simp [eqGuard, binOp, Op.intArith]
theorem u50 (h : k.wrap (a * b) = r) : mZ .mul xt x y (.int k a) (.int k b) (.int k r) := by intro w; subst h; simp [eqGuard, binOp, Op.intArith]
theorem k9z (hb : ¬ b = 0) (h : k.wrap (a.tdiv b) = r) : mZ .quo xt x y (.int k a) (.int k b) (.int k r) := by intro w; subst h; simp [eqGuard, binOp, Op.intDiv, hb]
theorem k36 (hb : ¬ b = 0) (h : a.tmod b = r) : mZ .rem xt x y (.int k a) (.int k b) (.int k r) := by intro w; subst h; simp [eqGuard, binOp, Op.intDiv, hb]
theorem u55 (h : decide (a = b) = c) : mZ .eql xt x y (.int k a) (.int k b) (.bool c) := by intro w; subst h; simp [eqGuard, binOp, Op.intCmp]; rfl
theorem u4z (h : decide (a ≠ b) = c) : mZ .neq xt x y (.int k a) (.int k b) (.bool c) := by
 intro w; subst h; simp [eqGuard, binOp, Op.intCmp]
 by_cases h : a = b <;> simp [h]
theorem u51 (h : decide (a < b) = c) : mZ .lss xt x y (.int k a) (.int k b) (.bool c) := by intro w; subst h; simp [eqGuard, binOp, Op.intCmp]
theorem u52 (h : decide (a ≤ b) = c) : mZ .leq xt x y (.int k a) (.int k b) (.bool c) := by intro w; subst h; simp [eqGuard, binOp, Op.intCmp]
theorem u53 (h : decide (b < a) = c) : mZ .gtr xt x y (.int k a) (.int k b) (.bool c) := by intro w; subst h; simp [eqGuard, binOp, Op.intCmp]
theorem u54 (h : decide (b ≤ a) = c) : mZ .geq xt x y (.int k a) (.int k b) (.bool c) := by intro w; subst h; simp [eqGuard, binOp, Op.intCmp]
end
theorem u1p {xt : TypeId} {x y : Operand} {a b c : Bool} (hu : Try.prog.underlying xt = some .bool) (h : (a == b) = c) : mZ .eql xt x y (.bool a) (.bool b) (.bool c) := by intro w; subst h; simp [eqGuard, binOp, run_equal_bool, hu]
theorem u1o {xt : TypeId} {x y : Operand} {a b c : Bool} (hu : Try.prog.underlying xt = some .bool) (h : (!(a == b)) = c) : mZ .neq xt x y (.bool a) (.bool b) (.bool c) := by intro w; subst h; simp [eqGuard, binOp, run_equal_bool, hu]
theorem tL {src dst : TypeId} {x : Operand} {j k : IntKind} {n r : Int} (ho : o.op = .convert src dst x) (hd : Try.prog.underlying dst = some (.int k)) (hs' : (Try.prog.underlying src).isSome = true) (hx : Ev l x (LV (.int j n))) (hr : k.wrap n = r) : OpOK cx o (S l) (S g) ⟨LV (.int k r), [], [], []⟩ :=
 qK fun ρ a w hs => ⟨.int k r, by
  have e1 := qC (hx.rep hs (by rw [ho]; simp [Op.operands]))
  subst hr
  obtain ⟨ds, hds⟩ := Option.isSome_iff_exists.1 hs'
  unfold execOp; simp only [ho, e1]
  simp [convert, run_underlying hd, run_underlying hds, Conv.intToInt], uN rfl⟩
theorem xI {x : Operand} {i : Nat} {es : List E1} {e : E1} (ho : o.op = .extract x i) (hx : Ev l x (.tup es)) (he : es[i]? = some e) : OpOK cx o (S l) (S g) ⟨.e e, [], [], []⟩ :=
 qK fun ρ a w hs => by
  obtain ⟨us, h1, h2⟩ := hx.rep hs (by rw [ho]; simp [Op.operands])
  have hi : i < us.length := by have := (List.getElem?_eq_some_iff.1 he).1; rw [← h2.len]; exact this
  exact ⟨us[i], by unfold execOp; simp [ho, h1, Instr.extract, hi], h2.get i e us[i] he (List.getElem?_eq_getElem hi)⟩
theorem xH {x : Operand} {ty st : TypeId} {ts : Array TypeId} {n : Nat} {u : PV} (ho : o.op = .call { callee := .builtin .len, args := #[x], argTypes := #[st] }) (hu : Try.prog.underlying st = some (.slice (Try.prog.elem st))) (hx : Ev l x u) (hn : ∀ p ρ w v, RepPV p ρ w u v → ∃ a c, v = .slice a n c) :
  OpOK cx o (S l) (S g) ⟨LV (.int .i64 n), [], [], []⟩ :=
 qK fun ρ a w hs => by
  obtain ⟨ad, c, e⟩ := hn _ _ _ _ (hx.rep hs (by rw [ho]; simp [Op.operands, Call.operands]))
  exact ⟨.int .i64 n, by unfold execOp; simp [ho, resolve, invoke, builtin, e, run_len_slice, hu, goInt], uN rfl⟩
theorem k82 : ∀ p ρ w v, RepPV p ρ w (LV aT) v → ∃ a c, v = .slice a 0 c := fun p ρ w v h => ⟨_, _, qC h⟩
theorem k80 {b off n s : Nat} {wh : Bool} : ∀ p ρ w v, RepPV p ρ w (.e (.c (.own b off n s wh))) v → ∃ a c, v = .slice a n c := by
 intro p ρ w v h; cases h <;> exact ⟨_, _, rfl⟩
theorem u26 {ds : List D} {n : Nat} : ∀ p ρ w v, RepPV p ρ w (.e (.c (.d (.sl ds n)))) v → ∃ a c, v = .slice a n c := by
 intro p ρ w v h; cases h with | d h => cases h <;> exact ⟨_, _, rfl⟩
theorem k3h {x y : Operand} {ts : Array TypeId} {k : IntKind} {a b r : Int} (ho : o.op = .call { callee := .builtin .min, args := #[x, y], argTypes := ts }) (hx : Ev l x (LV (.int k a))) (hy : Ev l y (LV (.int k b))) (hr : (if b < a then b else a) = r) : OpOK cx o (S l) (S g) ⟨LV (.int k r), [], [], []⟩ :=
 qK fun ρ a w hs => ⟨.int k r, by
  have e1 := qC (hx.rep hs (by rw [ho]; simp [Op.operands, Call.operands]))
  have e2 := qC (hy.rep hs (by rw [ho]; simp [Op.operands, Call.operands]))
  subst hr
  unfold execOp; simp [ho, resolve, invoke, builtin, e1, e2, run_min_int2], uN rfl⟩
theorem k3i {x y : Operand} {ts : Array TypeId} {k : IntKind} {a b r : Int} (ho : o.op = .call { callee := .builtin .max, args := #[x, y], argTypes := ts }) (hx : Ev l x (LV (.int k a))) (hy : Ev l y (LV (.int k b))) (hr : (if a < b then b else a) = r) : OpOK cx o (S l) (S g) ⟨LV (.int k r), [], [], []⟩ :=
 qK fun ρ a w hs => ⟨.int k r, by
  have e1 := qC (hx.rep hs (by rw [ho]; simp [Op.operands, Call.operands]))
  have e2 := qC (hy.rep hs (by rw [ho]; simp [Op.operands, Call.operands]))
  subst hr
  unfold execOp; simp [ho, resolve, invoke, builtin, e1, e2, run_max_int2], uN rfl⟩
end
end Go.Proofs.Ytdbjebdomdnbkaa
namespace Go.Proofs.Ytdbjebdomdnbkaa
open Go.ChangeShapes Go.WideShapes Go.ChangeAt Go.RowKit
set_option linter.unusedVariables false
set_option linter.unusedSimpArgs false
/-! types -/
def yL (P : Program) (t : TypeId) : Option (Bool × Nat) := match P.underlying t, P.info? t with
 | some d, some i => some (d.isRow, i.size)
 | _, _ => none
theorem cK {t : TypeId} {b : Bool} {n : Nat} (h : yL Try.prog t = some (b, n)) (w : World) : (isAgg t).run Try.prog w = .ok b w := by
 unfold yL at h
 split at h
 ·rename_i d i hd hi
  simp at h
  unfold isAgg
  rw [Sem.run_bind, run_underlying hd w]
  cases d <;> simp_all
 ·cases h
theorem uH {t : TypeId} {b : Bool} {n : Nat} (h : yL Try.prog t = some (b, n)) (w : World) : (sizeOf t).run Try.prog w = .ok n w := by
 unfold yL at h
 split at h
 ·rename_i d i hd hi
  simp at h
  simp [sizeOf, typeInfo, hi, h.2]
 ·cases h
theorem iJ {t : TypeId} {b : Bool} {n : Nat} (h : yL Try.prog t = some (b, n)) : ∃ d i, Try.prog.underlying t = some d ∧ Try.prog.info? t = some i ∧ d.isRow = b ∧ i.size = n := by
 unfold yL at h
 split at h
 ·rename_i d i hd hi
  simp at h
  exact ⟨d, i, hd, hi, h.1, h.2⟩
 ·cases h
def gQ (P : Program) (t : TypeId) (i : Nat) : Option (Nat × Bool × Nat) := match P.underlying t with
 | some (.struct fs) => (match fs[i]? with
  | some f => (yL P f.type).map fun x => (f.offset, x.1, x.2)
  | none => none)
 | _ => none
theorem dD {t : TypeId} {i off n : Nat} {b : Bool} (h : gQ Try.prog t i = some (off, b, n)) : ∃ fs f, Try.prog.underlying t = some (.struct fs) ∧ fs[i]? = some f ∧ f.offset = off ∧ yL Try.prog f.type = some (b, n) := by
 unfold gQ at h
 split at h
 ·rename_i fs hfs
  split at h
  ·rename_i f hf
   obtain ⟨x, hx, e⟩ := Option.map_eq_some_iff.1 h
   simp at e
   refine ⟨fs, f, hfs, hf, e.1, ?_⟩
   rw [hx, ← e.2.1, ← e.2.2]
  ·cases h
 ·cases h
def fH (P : Program) (t : TypeId) : Option (List Value) := match P.info? t with
 | some i => i.zero.map (·.cells.toList)
 | none => none
/-! rows -/
theorem Row.cell {p : Nat → Prop} {ρ : Rh} {w : World} {m : Nm} {T : TypeId} {cs : List C} (h : Row p ρ w m T cs) {i : Nat} {c : C} (hc : cs[i]? = some c) : ∃ v, w.cell? ⟨m.g, i, none⟩ = some v ∧ RepC p ρ w c v := by
 obtain ⟨vs, rest, h1, h2, h3⟩ := h
 have hi : i < vs.length := by have := (List.getElem?_eq_some_iff.1 hc).1; rw [← h3.len]; exact this
 refine ⟨vs[i], ?_, h3.get i c vs[i] hc (List.getElem?_eq_getElem hi)⟩
 exact BlkM.cell (vs := vs ++ rest) h1 i (by rw [List.getElem?_append_left hi]; exact List.getElem?_eq_getElem hi)
theorem All2.drop {α β : Type} {R : α → β → Prop} : ∀ (n : Nat) {xs : List α} {ys : List β}, All2 R xs ys → All2 R (xs.drop n) (ys.drop n)
 | 0, _, _, h => h
 | n + 1, [], [], _ => trivial
 | n + 1, _ :: _, _ :: _, h => All2.drop n h.2
theorem All2.take {α β : Type} {R : α → β → Prop} : ∀ (n : Nat) {xs : List α} {ys : List β}, All2 R xs ys → All2 R (xs.take n) (ys.take n)
 | 0, _, _, _ => trivial
 | n + 1, [], [], _ => trivial
 | n + 1, _ :: _, _ :: _, h => ⟨h.1, All2.take n h.2⟩
theorem All2.set {α β : Type} {R : α → β → Prop} {c : α} {v : β} (hcv : R c v) : ∀ (i : Nat) {xs : List α} {ys : List β}, All2 R xs ys → All2 R (xs.set i c) (ys.set i v)
 | _, [], [], _ => trivial
 | 0, _ :: _, _ :: _, h => ⟨hcv, h.2⟩
 | i + 1, _ :: _, _ :: _, h => ⟨h.1, All2.set hcv i h.2⟩
def lE : List C → Nat → List C → List C
 | cur, _, [] => cur
 | cur, o, c :: r => lE (cur.set o c) (o + 1) r
theorem All2.upd {R : C → Value → Prop} : ∀ {r : List C} {rv : List Value} (o : Nat) {xs : List C} {ys : List Value}, All2 R r rv → All2 R xs ys → All2 R (lE xs o r) (upd ys o rv)
 | [], [], _, _, _, _, h => h
 | _ :: _, _ :: _, o, _, _, hr, h => All2.upd (o + 1) hr.2 (h.set hr.1 o)
theorem zX : ∀ (r : List Value) (o : Nat) (vs rest : List Value), o + r.length ≤ vs.length → upd (vs ++ rest) o r = upd vs o r ++ rest
 | [], _, _, _, _ => rfl
 | v :: r, o, vs, rest, h => by
  simp only [List.length_cons] at h
  show upd ((vs ++ rest).set o v) (o + 1) r = upd (vs.set o v) (o + 1) r ++ rest
  rw [List.set_append_left _ _ (by omega)]
  exact zX r (o + 1) _ rest (by simp; omega)
theorem zW : ∀ (r : List Value) (o : Nat) (vs : List Value), (upd vs o r).length = vs.length
 | [], _, _ => rfl
 | v :: r, o, vs => by show (upd (vs.set o v) (o + 1) r).length = _; rw [zW r]; simp
def yJ : E1 → List C
 | .c x => [x]
 | .agg cs => cs
theorem RepE.cells {p : Nat → Prop} {ρ : Rh} {w : World} {x : E1} {v : Value} (h : RepE p ρ w x v) : All2 (RepC p ρ w) (yJ x) v.cells.toList ∧ ∀ u ∈ v.cells.toList, u.oneCell' = true := by
 cases x with
 | c x =>
  have h' : RepC p ρ w x v := h
  have h1 := h'.one
  have e : v.cells = #[v] := by cases v <;> first | rfl | (simp [Value.oneCell'] at h1)
  rw [e]
  exact ⟨⟨h', trivial⟩, by intro u hu; simp at hu; subst hu; exact h1⟩
 | agg cs =>
  obtain ⟨us, rfl, h2⟩ := h
  refine ⟨by simpa [yJ, Value.cells] using h2, ?_⟩
  intro u hu
  simp [Value.cells] at hu
  obtain ⟨i, hi⟩ := List.mem_iff_getElem?.1 hu
  have hil := (List.getElem?_eq_some_iff.1 hi).1
  have hic : i < cs.length := by rw [h2.len]; exact hil
  exact (h2.get i cs[i] u (List.getElem?_eq_getElem hic) hi).one
theorem HRep.write {cx : Cx} {ρ : Rh} {w w' : World} {h : Hp} (hh : HRep cx ρ w h) (hk : Kept cx.W cx.may w) {b : Nat} {m : Nm} {T : TypeId} {cs cs' : List C} (hb : h b = some (T, cs)) (hm : ρ b = some m) (hnl : m.nl = false) (ho : Only m.g w w') (hr : Row cx.p ρ w' m T cs') :
  Goes cx.p ρ ρ w w' ∧ HRep cx ρ w' (fun x => ([(b, some (T, cs'))].lookup x).getD (h x)) ∧ Kept cx.W cx.may w' := by
 obtain ⟨m2, h1, h2 | ⟨h2, h3, h4⟩⟩ := hh.row b T cs hb
 ·rw [hm] at h1; cases h1; rw [h2.1] at hnl; cases hnl
 rw [hm] at h1; cases h1
 have hgo : Goes cx.p ρ ρ w w' := ⟨fun _ _ h => h, fun _ h => h, ho.size, fun k hp hlt => ho.block k hlt (fun e => hp.elim (fun hp => cx.pm k hp (e ▸ h4)) (fun hz => hh.zf b m (by rw [hb]; simp) hm hnl (e ▸ hz)))⟩
 refine ⟨hgo, hh.step hgo ?_, hk.below ho.os ho.tape ho.output ho.size (fun k hk' hnm => ho.block k (Nat.lt_of_lt_of_le hk' hk.size) (fun e => hnm (e ▸ h4)))⟩
 intro x T' cs'' hx
 by_cases hxb : x = b
 ·subst hxb
  simp at hx
  obtain ⟨rfl, rfl⟩ := hx
  right
  refine ⟨m, hm, .inr ⟨hnl, hr, h4, hh.zf _ m (by rw [hb]; simp) hm hnl, ?_⟩⟩
  intro b' m' hne hb' hm' hnl' he
  have hb'' : h b' ≠ none := by simpa [List.lookup_cons, show (b' == x) = false by simpa using hne] using hb'
  exact hne (hh.inj b' x m' m hb'' (by rw [hb]; simp) hm' hm hnl' hnl he)
 ·left
  have hx' : h x = some (T', cs'') := by simpa [List.lookup_cons, show (x == b) = false by simpa using hxb] using hx
  refine ⟨hx', fun m' hm' hnl' => ?_⟩
  obtain ⟨k, k1, k2 | ⟨k2, k3, k4⟩⟩ := hh.row x T' cs'' hx'
  ·rw [hm'] at k1; cases k1; rw [k2.1] at hnl'; cases hnl'
  ·rw [hm'] at k1; cases k1
   exact ho.block _ k3.lt (fun e => hxb (hh.inj x b _ _ (by rw [hx']; simp) (by rw [hb]; simp) hm' hm hnl' hnl e))
theorem HRep.new {cx : Cx} {ρ : Rh} {w w' : World} {h : Hp} (hh : HRep cx ρ w h) (hk : Kept cx.W cx.may w) {nx gn : Nat} {T : TypeId} {cs : List C} {vs rest : List Value} (hρ : ρ nx = none) (ha : All2 (RepC cx.p ρ w) cs vs) (hb : BlkM w' gn (vs ++ rest) T) (hg : w.heap.size ≤ gn)
  (hos : w'.os = w.os) (htape : w'.tape = w.tape) (hout : w'.output = w.output) (hs : w.heap.size ≤ w'.heap.size) (hold : ∀ k, k < w.heap.size → w'.heap[k]? = w.heap[k]?) :
  Goes cx.p ρ (ρ.set nx ⟨gn, (vs ++ rest).length, false⟩) w w' ∧ HRep cx (ρ.set nx ⟨gn, (vs ++ rest).length, false⟩) w' (fun x => ([(nx, some (T, cs))].lookup x).getD (h x)) ∧ Kept cx.W cx.may w' := by
 have hgo : Goes cx.p ρ (ρ.set nx ⟨gn, (vs ++ rest).length, false⟩) w w' := by
  refine ⟨fun b m hb => ?_, fun _ h => h, hs, fun k _ hlt => hold k hlt⟩
  have : b ≠ nx := fun e => by rw [e, hρ] at hb; cases hb
  simp [this, hb]
 refine ⟨hgo, hh.step hgo ?_, hk.below hos htape hout hs (fun k hk' _ => hold k (Nat.lt_of_lt_of_le hk' hk.size))⟩
 intro x T' cs'' hx
 by_cases hxb : x = nx
 ·subst hxb
  simp at hx
  obtain ⟨rfl, rfl⟩ := hx
  right
  refine ⟨⟨gn, (vs ++ rest).length, false⟩, by simp, .inr ⟨rfl, ⟨vs, rest, hb, rfl, ha.imp fun _ _ => RepC.mono hgo⟩, cx.mayNew gn (Nat.le_trans hk.size hg), (fun hz => by have := hh.zl gn hz; omega), ?_⟩⟩
  intro b' m' hne hb' hm' hnl' he
  have hb'' : h b' ≠ none := by simpa [List.lookup_cons, show (b' == x) = false by simpa using hne] using hb'
  simp [hne] at hm'
  obtain ⟨⟨T3, c3⟩, h3⟩ := Option.ne_none_iff_exists'.1 hb''
  obtain ⟨k, k1, k2 | ⟨k2, k3, k4⟩⟩ := hh.row b' T3 c3 h3
  ·rw [hm'] at k1; cases k1; rw [k2.1] at hnl'; cases hnl'
  ·rw [hm'] at k1; cases k1
   have := k3.lt
   simp at he
   omega
 ·left
  have hx' : h x = some (T', cs'') := by simpa [List.lookup_cons, show (x == nx) = false by simpa using hxb] using hx
  refine ⟨hx', fun m' hm' hnl' => ?_⟩
  obtain ⟨k, k1, k2 | ⟨k2, k3, k4⟩⟩ := hh.row x T' cs'' hx'
  ·rw [hm'] at k1; cases k1; rw [k2.1] at hnl'; cases hnl'
  ·rw [hm'] at k1; cases k1
   exact hold _ k3.lt
section
variable {cx : Cx} {o : Oper} {l : List (Nat × PV)} {g : List (Nat × Option Bk)}
theorem bT {p : Nat → Prop} {ρ : Rh} {w : World} {b off : Nat} {v : Value} (h : RepPV p ρ w (.e (.c (.ptr b off))) v) : ∃ m, ρ b = some m ∧ m.nl = false ∧ v = .pointer (some ⟨m.g, off, none⟩) := by
 cases h with
 | ptr b off m hm hn => exact ⟨m, hm, hn, rfl⟩
theorem HRep.at {ρ : Rh} {w : World} {h : Hp} (hh : HRep cx ρ w h) {b : Nat} {m : Nm} {T : TypeId} {cs : List C} (hb : h b = some (T, cs)) (hm : ρ b = some m) (hnl : m.nl = false) : Row cx.p ρ w m T cs ∧ cx.may m.g := by
 obtain ⟨m2, h1, h2 | ⟨h2, h3, h4⟩⟩ := hh.row b T cs hb
 ·rw [hm] at h1; cases h1; rw [h2.1] at hnl; cases hnl
 ·rw [hm] at h1; cases h1; exact ⟨h3, h4⟩
theorem xA {p : Nat → Prop} {ρ : Rh} {w : World} {ds : List D} {v : Value} (h : RepPV p ρ w (.e (.c (.rp ds))) v) : ∃ (us : List Value) (b off : Nat), us.length = ds.length ∧ (∀ (i : Nat) (u : Value), us[i]? = some u → w.cell? ⟨b, off + i, none⟩ = some u) ∧ (∀ (i : Nat) (d : D) (u : Value), ds[i]? = some d → us[i]? = some u → RepD (pz p ρ) w d u) ∧ pz p ρ b ∧ b < w.heap.size ∧ v = .pointer (some ⟨b, off, none⟩) := by
 cases h with
 | rp ds us b off hl hc hr hp hlt => exact ⟨us, b, off, hl, hc, hr, hp, hlt, rfl⟩
theorem k06 {ty : TypeId} {x : Operand} {b off : Nat} {T : TypeId} {cs : List C} {c : C} (ho : o.op = .load ty x) (ht : yL Try.prog ty = some (false, 1)) (hx : Ev l x (.e (.c (.ptr b off)))) (hb : Look g b (some (T, cs))) (hc : cs[off]? = some c) : OpOK cx o (S l) (S g) ⟨.e (.c c), [], [], [b]⟩ :=
 pY fun ρ a w hL hs hf hh => by
  obtain ⟨m, hm, hn, e⟩ := bT (hx.rep hs (by rw [ho]; simp [Op.operands]))
  have hb' : hL b = some (T, cs) := by rw [hf b (by simp), hb.S]
  obtain ⟨v, h1, h2⟩ := (hh.at hb' hm hn).1.cell hc
  exact ⟨v, by unfold execOp; simp [ho, e, Instr.loadAt, Instr.sureAddr, loadVar, cK ht, h1], h2⟩
theorem i7 {ty : TypeId} {x : Operand} {b off n : Nat} {T : TypeId} {cs cs' : List C} (ho : o.op = .load ty x) (ht : yL Try.prog ty = some (true, n)) (hx : Ev l x (.e (.c (.ptr b off)))) (hb : Look g b (some (T, cs))) (hc : (cs.drop off).take n = cs') (hl : cs'.length = n) : OpOK cx o (S l) (S g) ⟨.e (.agg cs'), [], [], [b]⟩ :=
 pY fun ρ a w hL hs hf hh => by
  obtain ⟨m, hm, hn, e⟩ := bT (hx.rep hs (by rw [ho]; simp [Op.operands]))
  have hb' : hL b = some (T, cs) := by rw [hf b (by simp), hb.S]
  obtain ⟨vs, rest, h1, h2, h3⟩ := (hh.at hb' hm hn).1
  have h4 := (h3.drop off).take n
  rw [hc] at h4
  have h5 : ((vs.drop off).take n).length = n := by rw [← h4.len]; exact hl
  obtain ⟨d, i, hd, hi, hrow, hsz⟩ := iJ ht
  have hr := run_loadAt_mid (P := Try.prog) w m.g off ty ((vs.drop off).take n) d (fun j v hj => BlkM.cell (vs := vs ++ rest) h1 (off + j) (by
   rw [List.getElem?_take] at hj
   split at hj
   ·rw [List.getElem?_drop] at hj
    rw [List.getElem?_append_left (List.getElem?_eq_some_iff.1 hj).1]; exact hj
   ·cases hj)) hd hrow (by rw [hi, h5, ← hsz]; rfl)
  exact ⟨_, by unfold execOp; simp [ho, e, hr], _, rfl, h4⟩
theorem lY {ty : TypeId} {x : Operand} {ds : List D} {d : D} (ho : o.op = .load ty x) (ht : yL Try.prog ty = some (false, 1)) (hx : Ev l x (.e (.c (.rp ds)))) (hc : ds[0]? = some d) : OpOK cx o (S l) (S g) ⟨.e (.c (.d d)), [], [], []⟩ :=
 qK fun ρ a w hs => by
  obtain ⟨us, b, off, hl, hcc, hr, hp, hlt, e⟩ := xA (hx.rep hs (by rw [ho]; simp [Op.operands]))
  have h0 : 0 < us.length := by have := (List.getElem?_eq_some_iff.1 hc).1; omega
  have h1 := hcc 0 us[0] (List.getElem?_eq_getElem h0)
  rw [Nat.add_zero] at h1
  exact ⟨us[0], by unfold execOp; simp [ho, e, Instr.loadAt, Instr.sureAddr, loadVar, cK ht, h1], .d (hr 0 d us[0] hc (List.getElem?_eq_getElem h0))⟩
theorem eH {ty : TypeId} {x : Operand} {n : Nat} {ds ds' : List D} (ho : o.op = .load ty x) (ht : yL Try.prog ty = some (true, n)) (hx : Ev l x (.e (.c (.rp ds)))) (hc : ds.take n = ds') (hl' : ds'.length = n) : OpOK cx o (S l) (S g) ⟨.e (.agg (ds'.map .d)), [], [], []⟩ :=
 qK fun ρ a w hs => by
  obtain ⟨us, b, off, hl, hcc, hr, hp, hlt, e⟩ := xA (hx.rep hs (by rw [ho]; simp [Op.operands]))
  obtain ⟨d, i, hd, hi, hrow, hsz⟩ := iJ ht
  have hnl : n ≤ us.length := by rw [← hc, List.length_take] at hl'; omega
  have hr' := run_loadAt_mid (P := Try.prog) w b off ty (us.take n) d (fun j v hj => hcc j v (by rw [List.getElem?_take] at hj; split at hj <;> first | exact hj | cases hj)) hd hrow (by rw [hi, List.length_take, Nat.min_eq_left hnl, ← hsz]; rfl)
  refine ⟨_, by unfold execOp; simp [ho, e, hr'], us.take n, rfl, ?_⟩
  subst hc
  refine All2.mk (by simp [hl]) ?_
  intro j c u hj hu
  rw [List.getElem?_map] at hj
  obtain ⟨d', h6, rfl⟩ := Option.map_eq_some_iff.1 hj
  rw [List.getElem?_take] at h6 hu
  split at h6
  ·rename_i hjn
   rw [if_pos hjn] at hu
   exact .d (hr j d' u h6 hu)
  ·cases h6
theorem gF (w : World) (b off : Nat) (ty : TypeId) (v : Value) {bb : Bool} (ht : yL Try.prog ty = some (bb, v.cells.size)) (hth : w.there b off v.cells.size) (h1 : ∀ u ∈ v.cells.toList, u.oneCell' = true) :
  (Instr.storeAt ty (.pointer (some ⟨b, off, none⟩)) v).run Try.prog w = .ok () (w.setCells b off v.cells.toList) := by
 have := run_storeCells_cells (P := Try.prog) b off v.cells.toList 0 w (fun j hj => by simpa using (hth j (by simpa using hj)).1) (fun j hj => by simpa using (hth j (by simpa using hj)).2) h1
 simp only [Nat.add_zero] at this
 simp only [Instr.storeAt, Instr.sureAddr, Sem.run_bind, Sem.run_pure, Result.andThen_ok, storeVar, uH ht]
 simp [this]
theorem tH {ty : TypeId} {x y : Operand} {b off n : Nat} {bb : Bool} {T : TypeId} {cs cs' : List C} {e : E1} (ho : o.op = .store ty x y) (ht : yL Try.prog ty = some (bb, n)) (hx : Ev l x (.e (.c (.ptr b off)))) (hy : Ev l y (.e e)) (hb : Look g b (some (T, cs))) (hn : (yJ e).length = n) (hf : off + n ≤ cs.length) (hc : lE cs off (yJ e) = cs') :
  OpOK cx o (S l) (S g) ⟨.any, [(b, some (T, cs'))], [], [b]⟩ := by
 intro Q ρ a w hL hs hfoot _ hh hk hdf K hK
 obtain ⟨m, hm, hnl, ex⟩ := bT (hx.rep hs (by rw [ho]; simp [Op.operands]))
 have hb' : hL b = some (T, cs) := by rw [hfoot b (by simp), hb.S]
 obtain ⟨vs, rest, h1, h2, h3⟩ := (hh.at hb' hm hnl).1
 have hye : RepE cx.p ρ w e (a.eval y) := hy.rep hs (by rw [ho]; simp [Op.operands])
 obtain ⟨h4, h5⟩ := hye.cells
 have h6 : (a.eval y).cells.size = n := by have := h4.len; rw [hn] at this; simpa using this.symm
 have hcl : cs.length = vs.length := h3.len
 have hr := gF w m.g off ty (a.eval y) (by rw [h6]; exact ht) (BlkM.there (vs := vs ++ rest) h1 off _ (by rw [h6]; simp; omega)) h5
 have hw := HRep.write hh hk hb' hm hnl (w' := w.setCells m.g off (a.eval y).cells.toList) (cD _ _ _) (cs' := cs')
 have hB := BlkM.setCells (a.eval y).cells.toList off w (vs ++ rest) h1
 rw [zX _ _ _ _ (by simp [h6]; omega)] at hB
 have hgo : Goes cx.p ρ ρ w (w.setCells m.g off (a.eval y).cells.toList) := by
  have ho' := cD (b := m.g) (a.eval y).cells.toList off w
  exact ⟨fun _ _ h => h, fun _ h => h, ho'.size, fun k hp hlt => ho'.block k hlt (fun e => hp.elim (fun hp => cx.pm k hp (e ▸ (hh.at hb' hm hnl).2)) (fun hz => hh.zf b m (by rw [hb']; simp) hm hnl (e ▸ hz)))⟩
 have hrow : Row cx.p ρ (w.setCells m.g off (a.eval y).cells.toList) m T cs' := by
  refine ⟨_, rest, hB, by rw [List.length_append, zW, ← List.length_append]; exact h2, ?_⟩
  rw [← hc]
  exact (All2.upd off h4 h3).imp fun _ _ => RepC.mono hgo
 obtain ⟨q1, q2, q3⟩ := hw hrow
 unfold Oper.wp execOp
 simp only [ho, ex, Sem.run_bind, hr, Result.andThen_ok, Sem.run_pure, Oper.upon_skip]
 exact hK undef _ ρ q1 (fun _ _ h => h) q2 q3 trivial
theorem k3g {nx : Nat} {T : TypeId} {cs : List C} (H : ∀ ρ a w, aL cx.p ρ w l o.op.operands a → ∃ vs : List Value, (execOp a.eval o).run Try.prog w = .ok (.value (.pointer (some ⟨w.heap.size, 0, none⟩))) (w.alloc (.cells vs.toArray T)) ∧ All2 (RepC cx.p ρ w) cs vs) :
  OpOK cx o (S l) (S g) ⟨.e (.c (.ptr nx 0)), [(nx, some (T, cs))], [nx], []⟩ := by
 intro Q ρ a w hL hs _ hnews hh hk hdf K hK
 obtain ⟨vs, h1, h2⟩ := H ρ a w hs
 obtain ⟨q1, q2, q3⟩ := hh.new hk (nx := nx) (gn := w.heap.size) (T := T) (rest := []) (hnews nx (by simp)) h2 (w' := w.alloc (.cells vs.toArray T)) (by rw [List.append_nil]; exact k13 (heap_alloc_new w _)) (Nat.le_refl _) rfl rfl rfl (by simp) (fun k hk => Below.heap_alloc _ _ _ hk)
 unfold Oper.wp
 rw [h1]
 refine hK _ _ _ q1 (fun b hb hn => ?_) q2 q3 ?_
 ·have : b ≠ nx := by simpa using hb
  simp [this, hn]
 ·exact .ptr nx 0 ⟨w.heap.size, _, false⟩ (by simp; rfl) rfl
theorem k3p {nx : Nat} {T : TypeId} {zs : List Value} (ho : o.op = .alloc T) (hz : fH Try.prog T = some zs) (h1 : zs.all (·.oneCell') = true) : OpOK cx o (S l) (S g) ⟨.e (.c (.ptr nx 0)), [(nx, some (T, zs.map LC))], [nx], []⟩ :=
 k3g fun ρ a w hs => by
  unfold fH at hz
  split at hz
  ·rename_i i hi
   obtain ⟨z, hz1, hz2⟩ := Option.map_eq_some_iff.1 hz
   refine ⟨zs, ?_, ?_⟩
   ·unfold execOp
    have e : z.cells = zs.toArray := by rw [← hz2]
    simp [ho, Instr.alloc, zeroValue, typeInfo, hi, hz1, newVar, newRow, e]
   ·refine All2.mk (by simp) ?_
    intro j c u hj hu
    rw [List.getElem?_map, hu] at hj
    simp at hj
    subst hj
    exact .d (.lit _ (List.all_eq_true.1 h1 u (List.mem_of_getElem? hu)))
  ·cases hz
theorem u1w {nx : Nat} {T : TypeId} {x : Operand} {e : E1} (ho : o.op = .box T x) (hx : Ev l x (.e e)) : OpOK cx o (S l) (S g) ⟨.e (.c (.ptr nx 0)), [(nx, some (T, yJ e))], [nx], []⟩ :=
 k3g fun ρ a w hs => by
  have hye : RepE cx.p ρ w e (a.eval x) := hx.rep hs (by rw [ho]; simp [Op.operands])
  exact ⟨(a.eval x).cells.toList, by unfold execOp; simp [ho, Instr.box, newVar, newRow], hye.cells.1⟩
theorem rA {t : TypeId} {x : Operand} {i b off k n r : Nat} {bb : Bool} (ho : o.op = .fieldAddr t x i) (hf : gQ Try.prog t i = some (k, bb, n + 1)) (hx : Ev l x (.e (.c (.ptr b off)))) (hr : off + k = r) : OpOK cx o (S l) (S g) ⟨.e (.c (.ptr b r)), [], [], []⟩ :=
 qK fun ρ a w hs => by
  obtain ⟨m, hm, hn, e⟩ := bT (hx.rep hs (by rw [ho]; simp [Op.operands]))
  obtain ⟨fs, f, h1, h2, h3, h4⟩ := dD hf
  subst hr
  subst h3
  refine ⟨_, ?_, .ptr b _ m hm hn⟩
  unfold execOp
  simp [ho, e, Instr.fieldAt, run_underlying h1, h2, Instr.sureAddr, fieldPlace, uH h4, Addr.add_mid]
theorem jJ {t : TypeId} {x : Operand} {i k n : Nat} {bb : Bool} {ds ds' : List D} (ho : o.op = .fieldAddr t x i) (hf : gQ Try.prog t i = some (k, bb, n + 1)) (hx : Ev l x (.e (.c (.rp ds)))) (hr : ds.drop k = ds') : OpOK cx o (S l) (S g) ⟨.e (.c (.rp ds')), [], [], []⟩ :=
 qK fun ρ a w hs => by
  obtain ⟨fs, f, h1, h2, h3, h4⟩ := dD hf
  subst hr
  subst h3
  obtain ⟨us, b, off, hl, hcc, hr, hp, hlt, e⟩ := xA (hx.rep hs (by rw [ho]; simp [Op.operands]))
  refine ⟨.pointer (some ⟨b, off + f.offset, none⟩), ?_, .rp _ (us.drop f.offset) b _ (by simp [hl]) ?_ ?_ hp hlt⟩
  ·unfold execOp
   simp [ho, e, Instr.fieldAt, run_underlying h1, h2, Instr.sureAddr, fieldPlace, uH h4, Addr.add_mid]
  ·intro j u hj
   rw [List.getElem?_drop] at hj
   rw [Nat.add_assoc]; exact hcc _ u hj
  ·intro j d u hj hu
   rw [List.getElem?_drop] at hj hu
   exact hr _ d u hj hu
theorem k3m {t : TypeId} {x : Operand} {i k : Nat} {cs : List C} {c : C} (ho : o.op = .field t x i) (hf : gQ Try.prog t i = some (k, false, 1)) (hx : Ev l x (.e (.agg cs))) (hc : cs[k]? = some c) : OpOK cx o (S l) (S g) ⟨.e (.c c), [], [], []⟩ :=
 qK fun ρ a w hs => by
  obtain ⟨us, e, h5⟩ := hx.rep hs (by rw [ho]; simp [Op.operands])
  obtain ⟨fs, f, h1, h2, h3, h4⟩ := dD hf
  subst h3
  have hi : f.offset < us.length := by have := (List.getElem?_eq_some_iff.1 hc).1; rw [← h5.len]; exact this
  refine ⟨us[f.offset], ?_, h5.get _ c _ hc (List.getElem?_eq_getElem hi)⟩
  unfold execOp
  simp [ho, e, Instr.field, run_underlying h1, h2, asAgg, part, cK h4, hi]
theorem p9 {t : TypeId} {x : Operand} {i k n : Nat} {cs cs' : List C} (ho : o.op = .field t x i) (hf : gQ Try.prog t i = some (k, true, n)) (hx : Ev l x (.e (.agg cs))) (hc : (cs.drop k).take n = cs') : OpOK cx o (S l) (S g) ⟨.e (.agg cs'), [], [], []⟩ :=
 qK fun ρ a w hs => by
  obtain ⟨us, e, h5⟩ := hx.rep hs (by rw [ho]; simp [Op.operands])
  obtain ⟨fs, f, h1, h2, h3, h4⟩ := dD hf
  subst h3
  subst hc
  refine ⟨.agg ((us.drop f.offset).take n).toArray, ?_, _, rfl, (h5.drop _).take n⟩
  unfold execOp
  simp [ho, e, Instr.field, run_underlying h1, h2, asAgg, part, cK h4, uH h4, List.extract_eq_take_drop]
end
end Go.Proofs.Ytdbjebdomdnbkaa
