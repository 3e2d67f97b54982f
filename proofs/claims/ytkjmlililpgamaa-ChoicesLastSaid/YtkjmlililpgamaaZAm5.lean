/- A memory told by names: the operations on memory. No statement is proved here. -/
import Derived.Test.YtkjmlililpgamaaZAm4
import Derived.Laws.AppendOwnNone
namespace Go.Proofs.Ytkjmlililpgamaa
open Go.ChangeShapes Go.WideShapes Go.ChangeAt Go.RowKit
open List renaming getElem?_append_left → kf7, getElem?_drop → kd8, getElem?_eq_getElem → kb3, getElem?_map → ke5, getElem?_take → ke4, length_append → ka4, length_take → kb8, lookup_cons → kc2
set_option linter.unusedVariables false
set_option linter.unusedSimpArgs false
/-! types -/
def qM (P : Program) (t : TypeId) : Option (Bool × Nat) := match P.underlying t, P.info? t with
 | some d, some i => some (d.isRow, i.size)
 | _, _ => none
theorem yU {t : TypeId} {b : Bool} {n : Nat} (h : qM Try.prog t = some (b, n)) (w : World) : (isAgg t).run Try.prog w = .ok b w := by
 unfold qM at h
 split at h
 ·rename_i d i hd hi
  simp at h
  unfold isAgg
  rw [Sem.run_bind, run_underlying hd w]
  cases d <;> simp_all
 ·cases h
theorem k9 {t : TypeId} {b : Bool} {n : Nat} (h : qM Try.prog t = some (b, n)) (w : World) : (sizeOf t).run Try.prog w = .ok n w := by
 unfold qM at h
 split at h
 ·rename_i d i hd hi
  simp at h
  simp [sizeOf, typeInfo, hi, h.2]
 ·cases h
theorem bE {t : TypeId} {b : Bool} {n : Nat} (h : qM Try.prog t = some (b, n)) : ∃ d i, Try.prog.underlying t = some d ∧ Try.prog.info? t = some i ∧ d.isRow = b ∧ i.size = n := by
 unfold qM at h
 split at h
 ·rename_i d i hd hi
  simp at h
  exact ⟨d, i, hd, hi, h.1, h.2⟩
 ·cases h
def aZ (P : Program) (t : TypeId) (i : Nat) : Option (Nat × Bool × Nat) := match P.underlying t with
 | some (.struct fs) => (match fs[i]? with
  | some f => (qM P f.type).map fun x => (f.offset, x.1, x.2)
  | none => none)
 | _ => none
theorem y6 {t : TypeId} {i off n : Nat} {b : Bool} (h : aZ Try.prog t i = some (off, b, n)) : ∃ fs f, Try.prog.underlying t = some (.struct fs) ∧ fs[i]? = some f ∧ f.offset = off ∧ qM Try.prog f.type = some (b, n) := by
 unfold aZ at h
 split at h
 ·rename_i fs hfs
  split at h
  ·rename_i f hf
   obtain ⟨x, hx, e⟩ := Option.map_eq_some_iff.1 h
   simp at e
   refine ⟨fs, f, hfs, hf, e.1, ?_⟩
   rw [hx, ← e.2.1, ← e.2.2]
  ·cases h
 ·cases h
def v7 (P : Program) (t : TypeId) : Option (List Value) := match P.info? t with
 | some i => i.zero.map (·.cells.toList)
 | none => none
/-! rows -/
theorem Row.cell {p : Nat → Prop} {ρ : Rh} {w : World} {m : Nm} {T : TypeId} {cs : List C} (h : Row p ρ w m T cs) {i : Nat} {c : C} (hc : cs[i]? = some c) : ∃ v, w.cell? ⟨m.g, i, none⟩ = some v ∧ RepC p ρ w c v := by
 obtain ⟨vs, rest, h1, h2, h3⟩ := h
 have hi : i < vs.length := by have := (List.getElem?_eq_some_iff.1 hc).1; rw [← h3.len]; exact this
 refine ⟨vs[i], ?_, h3.get i c vs[i] hc (kb3 hi)⟩
 exact BlkM.cell (vs := vs ++ rest) h1 i (by rw [kf7 hi]; exact kb3 hi)
theorem All2.drop {α β : Type} {R : α → β → Prop} : ∀ (n : Nat) {xs : List α} {ys : List β}, All2 R xs ys → All2 R (xs.drop n) (ys.drop n)
 | 0, _, _, h => h
 | n + 1, [], [], _ => trivial
 | n + 1, _ :: _, _ :: _, h => All2.drop n h.2
theorem All2.take {α β : Type} {R : α → β → Prop} : ∀ (n : Nat) {xs : List α} {ys : List β}, All2 R xs ys → All2 R (xs.take n) (ys.take n)
 | 0, _, _, _ => trivial
 | n + 1, [], [], _ => trivial
 | n + 1, _ :: _, _ :: _, h => ⟨h.1, All2.take n h.2⟩
theorem All2.set {α β : Type} {R : α → β → Prop} {c : α} {v : β} (hcv : R c v) : ∀ (i : Nat) {xs : List α} {ys : List β}, All2 R xs ys → All2 R (xs.set i c) (ys.set i v)
 | _, [], [], _ => trivial
 | 0, _ :: _, _ :: _, h => ⟨hcv, h.2⟩
 | i + 1, _ :: _, _ :: _, h => ⟨h.1, All2.set hcv i h.2⟩
def cJ : List C → Nat → List C → List C
 | cur, _, [] => cur
 | cur, o, c :: r => cJ (cur.set o c) (o + 1) r
theorem All2.upd {R : C → Value → Prop} : ∀ {r : List C} {rv : List Value} (o : Nat) {xs : List C} {ys : List Value}, All2 R r rv → All2 R xs ys → All2 R (cJ xs o r) (upd ys o rv)
 | [], [], _, _, _, _, h => h
 | _ :: _, _ :: _, o, _, _, hr, h => All2.upd (o + 1) hr.2 (h.set hr.1 o)
theorem lX : ∀ (r : List Value) (o : Nat) (vs rest : List Value), o + r.length ≤ vs.length → upd (vs ++ rest) o r = upd vs o r ++ rest
 | [], _, _, _, _ => rfl
 | v :: r, o, vs, rest, h => by
  simp only [List.length_cons] at h
  show upd ((vs ++ rest).set o v) (o + 1) r = upd (vs.set o v) (o + 1) r ++ rest
  rw [List.set_append_left _ _ (by omega)]
  exact lX r (o + 1) _ rest (by simp; omega)
theorem lW : ∀ (r : List Value) (o : Nat) (vs : List Value), (upd vs o r).length = vs.length
 | [], _, _ => rfl
 | v :: r, o, vs => by show (upd (vs.set o v) (o + 1) r).length = _; rw [lW r]; simp
def qL : E1 → List C
 | .c x => [x]
 | .agg cs => cs
theorem RepE.cells {p : Nat → Prop} {ρ : Rh} {w : World} {x : E1} {v : Value} (h : RepE p ρ w x v) : All2 (RepC p ρ w) (qL x) v.cells.toList ∧ ∀ u ∈ v.cells.toList, u.oneCell' = true := by
 cases x with
 | c x =>
  have h' : RepC p ρ w x v := h
  have h1 := h'.one
  have e : v.cells = #[v] := by cases v <;> first | rfl | (simp [Value.oneCell'] at h1)
  rw [e]
  exact ⟨⟨h', trivial⟩, by intro u hu; simp at hu; subst hu; exact h1⟩
 | agg cs =>
  obtain ⟨us, rfl, h2⟩ := h
  refine ⟨by simpa [qL, Value.cells] using h2, ?_⟩
  intro u hu
  simp [Value.cells] at hu
  obtain ⟨i, hi⟩ := List.mem_iff_getElem?.1 hu
  have hil := (List.getElem?_eq_some_iff.1 hi).1
  have hic : i < cs.length := by rw [h2.len]; exact hil
  exact (h2.get i cs[i] u (kb3 hic) hi).one
theorem HRep.write {cx : Cx} {ρ : Rh} {w w' : World} {h : Hp} (hh : HRep cx ρ w h) (hk : Kept cx.W cx.may w) {b : Nat} {m : Nm} {T : TypeId} {cs cs' : List C} (hb : h b = some (T, cs)) (hm : ρ b = some m) (hnl : m.nl = false) (ho : Only m.g w w') (hr : Row cx.p ρ w' m T cs') :
  Goes cx.p ρ ρ w w' ∧ HRep cx ρ w' (fun x => ([(b, some (T, cs'))].lookup x).getD (h x)) ∧ Kept cx.W cx.may w' := by
 obtain ⟨m2, h1, h2 | ⟨h2, h3, h4⟩⟩ := hh.row b T cs hb
 ·rw [hm] at h1; cases h1; rw [h2.1] at hnl; cases hnl
 rw [hm] at h1; cases h1
 have hgo : Goes cx.p ρ ρ w w' := ⟨fun _ _ h => h, fun _ h => h, ho.size, fun k hp hlt => ho.block k hlt (fun e => hp.elim (fun hp => cx.pm k hp (e ▸ h4)) (fun hz => hh.zf b m (by rw [hb]; simp) hm hnl (e ▸ hz)))⟩
 refine ⟨hgo, hh.step hgo ?_, hk.below ho.os ho.tape ho.output ho.size (fun k hk' hnm => ho.block k (Nat.lt_of_lt_of_le hk' hk.size) (fun e => hnm (e ▸ h4)))⟩
 intro x T' cs'' hx
 by_cases hxb : x = b
 ·subst hxb
  simp at hx
  obtain ⟨rfl, rfl⟩ := hx
  right
  refine ⟨m, hm, .inr ⟨hnl, hr, h4, hh.zf _ m (by rw [hb]; simp) hm hnl, ?_⟩⟩
  intro b' m' hne hb' hm' hnl' he
  have hb'' : h b' ≠ none := by simpa [kc2, show (b' == x) = false by simpa using hne] using hb'
  exact hne (hh.inj b' x m' m hb'' (by rw [hb]; simp) hm' hm hnl' hnl he)
 ·left
  have hx' : h x = some (T', cs'') := by simpa [kc2, show (x == b) = false by simpa using hxb] using hx
  refine ⟨hx', fun m' hm' hnl' => ?_⟩
  obtain ⟨k, k1, k2 | ⟨k2, k3, k4⟩⟩ := hh.row x T' cs'' hx'
  ·rw [hm'] at k1; cases k1; rw [k2.1] at hnl'; cases hnl'
  ·rw [hm'] at k1; cases k1
   exact ho.block _ k3.lt (fun e => hxb (hh.inj x b _ _ (by rw [hx']; simp) (by rw [hb]; simp) hm' hm hnl' hnl e))
theorem HRep.new {cx : Cx} {ρ : Rh} {w w' : World} {h : Hp} (hh : HRep cx ρ w h) (hk : Kept cx.W cx.may w) {nx gn : Nat} {T : TypeId} {cs : List C} {vs rest : List Value} (hρ : ρ nx = none) (ha : All2 (RepC cx.p ρ w) cs vs) (hb : BlkM w' gn (vs ++ rest) T) (hg : w.heap.size ≤ gn)
  (hos : w'.os = w.os) (htape : w'.tape = w.tape) (hout : w'.output = w.output) (hs : w.heap.size ≤ w'.heap.size) (hold : ∀ k, k < w.heap.size → w'.heap[k]? = w.heap[k]?) :
  Goes cx.p ρ (ρ.set nx ⟨gn, (vs ++ rest).length, false⟩) w w' ∧ HRep cx (ρ.set nx ⟨gn, (vs ++ rest).length, false⟩) w' (fun x => ([(nx, some (T, cs))].lookup x).getD (h x)) ∧ Kept cx.W cx.may w' := by
 have hgo : Goes cx.p ρ (ρ.set nx ⟨gn, (vs ++ rest).length, false⟩) w w' := by
  refine ⟨fun b m hb => ?_, fun _ h => h, hs, fun k _ hlt => hold k hlt⟩
  have : b ≠ nx := fun e => by rw [e, hρ] at hb; cases hb
  simp [this, hb]
 refine ⟨hgo, hh.step hgo ?_, hk.below hos htape hout hs (fun k hk' _ => hold k (Nat.lt_of_lt_of_le hk' hk.size))⟩
 intro x T' cs'' hx
 by_cases hxb : x = nx
 ·subst hxb
  simp at hx
  obtain ⟨rfl, rfl⟩ := hx
  right
  refine ⟨⟨gn, (vs ++ rest).length, false⟩, by simp, .inr ⟨rfl, ⟨vs, rest, hb, rfl, ha.imp fun _ _ => RepC.mono hgo⟩, cx.mayNew gn (Nat.le_trans hk.size hg), (fun hz => by have := hh.zl gn hz; omega), ?_⟩⟩
  intro b' m' hne hb' hm' hnl' he
  have hb'' : h b' ≠ none := by simpa [kc2, show (b' == x) = false by simpa using hne] using hb'
  simp [hne] at hm'
  obtain ⟨⟨T3, c3⟩, h3⟩ := Option.ne_none_iff_exists'.1 hb''
  obtain ⟨k, k1, k2 | ⟨k2, k3, k4⟩⟩ := hh.row b' T3 c3 h3
  ·rw [hm'] at k1; cases k1; rw [k2.1] at hnl'; cases hnl'
  ·rw [hm'] at k1; cases k1
   have := k3.lt
   simp at he
   omega
 ·left
  have hx' : h x = some (T', cs'') := by simpa [kc2, show (x == nx) = false by simpa using hxb] using hx
  refine ⟨hx', fun m' hm' hnl' => ?_⟩
  obtain ⟨k, k1, k2 | ⟨k2, k3, k4⟩⟩ := hh.row x T' cs'' hx'
  ·rw [hm'] at k1; cases k1; rw [k2.1] at hnl'; cases hnl'
  ·rw [hm'] at k1; cases k1
   exact hold _ k3.lt
section
variable {cx : Cx} {o : Oper} {l : List (Nat × PV)} {g : List (Nat × Option Bk)}
theorem yH {p : Nat → Prop} {ρ : Rh} {w : World} {b off : Nat} {v : Value} (h : RepPV p ρ w (.e (.c (.ptr b off))) v) : ∃ m, ρ b = some m ∧ m.nl = false ∧ v = .pointer (some ⟨m.g, off, none⟩) := by
 cases h with
 | ptr b off m hm hn => exact ⟨m, hm, hn, rfl⟩
theorem HRep.at {ρ : Rh} {w : World} {h : Hp} (hh : HRep cx ρ w h) {b : Nat} {m : Nm} {T : TypeId} {cs : List C} (hb : h b = some (T, cs)) (hm : ρ b = some m) (hnl : m.nl = false) : Row cx.p ρ w m T cs ∧ cx.may m.g := by
 obtain ⟨m2, h1, h2 | ⟨h2, h3, h4⟩⟩ := hh.row b T cs hb
 ·rw [hm] at h1; cases h1; rw [h2.1] at hnl; cases hnl
 ·rw [hm] at h1; cases h1; exact ⟨h3, h4⟩
theorem jU {p : Nat → Prop} {ρ : Rh} {w : World} {ds : List D} {v : Value} (h : RepPV p ρ w (.e (.c (.rp ds))) v) : ∃ (us : List Value) (b off : Nat), us.length = ds.length ∧ (∀ (i : Nat) (u : Value), us[i]? = some u → w.cell? ⟨b, off + i, none⟩ = some u) ∧ (∀ (i : Nat) (d : D) (u : Value), ds[i]? = some d → us[i]? = some u → RepD (pz p ρ) w d u) ∧ pz p ρ b ∧ b < w.heap.size ∧ v = .pointer (some ⟨b, off, none⟩) := by
 cases h with
 | rp ds us b off hl hc hr hp hlt => exact ⟨us, b, off, hl, hc, hr, hp, hlt, rfl⟩
theorem l8 {ty : TypeId} {x : Operand} {b off : Nat} {T : TypeId} {cs : List C} {c : C} (ho : o.op = .load ty x) (ht : qM Try.prog ty = some (false, 1)) (hx : Ev l x (.e (.c (.ptr b off)))) (hb : Look g b (some (T, cs))) (hc : cs[off]? = some c) : OpOK cx o (S l) (S g) ⟨.e (.c c), [], [], [b]⟩ :=
 fS fun ρ a w hL hs hf hh => by
  obtain ⟨m, hm, hn, e⟩ := yH (hx.rep hs (by rw [ho]; simp [Op.operands]))
  have hb' : hL b = some (T, cs) := by rw [hf b (by simp), hb.S]
  obtain ⟨v, h1, h2⟩ := (hh.at hb' hm hn).1.cell hc
  exact ⟨v, by unfold execOp; simp [ho, e, Instr.loadAt, Instr.sureAddr, loadVar, yU ht, h1], h2⟩
theorem bT {ty : TypeId} {x : Operand} {b off n : Nat} {T : TypeId} {cs cs' : List C} (ho : o.op = .load ty x) (ht : qM Try.prog ty = some (true, n)) (hx : Ev l x (.e (.c (.ptr b off)))) (hb : Look g b (some (T, cs))) (hc : (cs.drop off).take n = cs') (hl : cs'.length = n) : OpOK cx o (S l) (S g) ⟨.e (.agg cs'), [], [], [b]⟩ :=
 fS fun ρ a w hL hs hf hh => by
  obtain ⟨m, hm, hn, e⟩ := yH (hx.rep hs (by rw [ho]; simp [Op.operands]))
  have hb' : hL b = some (T, cs) := by rw [hf b (by simp), hb.S]
  obtain ⟨vs, rest, h1, h2, h3⟩ := (hh.at hb' hm hn).1
  have h4 := (h3.drop off).take n
  rw [hc] at h4
  have h5 : ((vs.drop off).take n).length = n := by rw [← h4.len]; exact hl
  obtain ⟨d, i, hd, hi, hrow, hsz⟩ := bE ht
  have hr := run_loadAt_mid (P := Try.prog) w m.g off ty ((vs.drop off).take n) d (fun j v hj => BlkM.cell (vs := vs ++ rest) h1 (off + j) (by
   rw [ke4] at hj
   split at hj
   ·rw [kd8] at hj
    rw [kf7 (List.getElem?_eq_some_iff.1 hj).1]; exact hj
   ·cases hj)) hd hrow (by rw [hi, h5, ← hsz]; rfl)
  exact ⟨_, by unfold execOp; simp [ho, e, hr], _, rfl, h4⟩
theorem cZ {ty : TypeId} {x : Operand} {ds : List D} {d : D} (ho : o.op = .load ty x) (ht : qM Try.prog ty = some (false, 1)) (hx : Ev l x (.e (.c (.rp ds)))) (hc : ds[0]? = some d) : OpOK cx o (S l) (S g) ⟨.e (.c (.d d)), [], [], []⟩ :=
 kJ fun ρ a w hs => by
  obtain ⟨us, b, off, hl, hcc, hr, hp, hlt, e⟩ := jU (hx.rep hs (by rw [ho]; simp [Op.operands]))
  have h0 : 0 < us.length := by have := (List.getElem?_eq_some_iff.1 hc).1; omega
  have h1 := hcc 0 us[0] (kb3 h0)
  rw [Nat.add_zero] at h1
  exact ⟨us[0], by unfold execOp; simp [ho, e, Instr.loadAt, Instr.sureAddr, loadVar, yU ht, h1], .d (hr 0 d us[0] hc (kb3 h0))⟩
theorem vH {ty : TypeId} {x : Operand} {n : Nat} {ds ds' : List D} (ho : o.op = .load ty x) (ht : qM Try.prog ty = some (true, n)) (hx : Ev l x (.e (.c (.rp ds)))) (hc : ds.take n = ds') (hl' : ds'.length = n) : OpOK cx o (S l) (S g) ⟨.e (.agg (ds'.map .d)), [], [], []⟩ :=
 kJ fun ρ a w hs => by
  obtain ⟨us, b, off, hl, hcc, hr, hp, hlt, e⟩ := jU (hx.rep hs (by rw [ho]; simp [Op.operands]))
  obtain ⟨d, i, hd, hi, hrow, hsz⟩ := bE ht
  have hnl : n ≤ us.length := by rw [← hc, kb8] at hl'; omega
  have hr' := run_loadAt_mid (P := Try.prog) w b off ty (us.take n) d (fun j v hj => hcc j v (by rw [ke4] at hj; split at hj <;> first | exact hj | cases hj)) hd hrow (by rw [hi, kb8, Nat.min_eq_left hnl, ← hsz]; rfl)
  refine ⟨_, by unfold execOp; simp [ho, e, hr'], us.take n, rfl, ?_⟩
  subst hc
  refine All2.mk (by simp [hl]) ?_
  intro j c u hj hu
  rw [ke5] at hj
  obtain ⟨d', h6, rfl⟩ := Option.map_eq_some_iff.1 hj
  rw [ke4] at h6 hu
  split at h6
  ·rename_i hjn
   rw [if_pos hjn] at hu
   exact .d (hr j d' u h6 hu)
  ·cases h6
theorem aS (w : World) (b off : Nat) (ty : TypeId) (v : Value) {bb : Bool} (ht : qM Try.prog ty = some (bb, v.cells.size)) (hth : w.there b off v.cells.size) (h1 : ∀ u ∈ v.cells.toList, u.oneCell' = true) :
  (Instr.storeAt ty (.pointer (some ⟨b, off, none⟩)) v).run Try.prog w = .ok () (w.setCells b off v.cells.toList) := by
 have := run_storeCells_cells (P := Try.prog) b off v.cells.toList 0 w (fun j hj => by simpa using (hth j (by simpa using hj)).1) (fun j hj => by simpa using (hth j (by simpa using hj)).2) h1
 simp only [Nat.add_zero] at this
 simp only [Instr.storeAt, Instr.sureAddr, Sem.run_bind, Sem.run_pure, Result.andThen_ok, storeVar, k9 ht]
 simp [this]
theorem hU {ty : TypeId} {x y : Operand} {b off n : Nat} {bb : Bool} {T : TypeId} {cs cs' : List C} {e : E1} (ho : o.op = .store ty x y) (ht : qM Try.prog ty = some (bb, n)) (hx : Ev l x (.e (.c (.ptr b off)))) (hy : Ev l y (.e e)) (hb : Look g b (some (T, cs))) (hn : (qL e).length = n) (hf : off + n ≤ cs.length) (hc : cJ cs off (qL e) = cs') :
  OpOK cx o (S l) (S g) ⟨.any, [(b, some (T, cs'))], [], [b]⟩ := by
 intro Q ρ a w hL hs hfoot _ hh hk hdf K hK
 obtain ⟨m, hm, hnl, ex⟩ := yH (hx.rep hs (by rw [ho]; simp [Op.operands]))
 have hb' : hL b = some (T, cs) := by rw [hfoot b (by simp), hb.S]
 obtain ⟨vs, rest, h1, h2, h3⟩ := (hh.at hb' hm hnl).1
 have hye : RepE cx.p ρ w e (a.eval y) := hy.rep hs (by rw [ho]; simp [Op.operands])
 obtain ⟨h4, h5⟩ := hye.cells
 have h6 : (a.eval y).cells.size = n := by have := h4.len; rw [hn] at this; simpa using this.symm
 have hcl : cs.length = vs.length := h3.len
 have hr := aS w m.g off ty (a.eval y) (by rw [h6]; exact ht) (BlkM.there (vs := vs ++ rest) h1 off _ (by rw [h6]; simp; omega)) h5
 have hw := HRep.write hh hk hb' hm hnl (w' := w.setCells m.g off (a.eval y).cells.toList) (yQ _ _ _) (cs' := cs')
 have hB := BlkM.setCells (a.eval y).cells.toList off w (vs ++ rest) h1
 rw [lX _ _ _ _ (by simp [h6]; omega)] at hB
 have hgo : Goes cx.p ρ ρ w (w.setCells m.g off (a.eval y).cells.toList) := by
  have ho' := yQ (b := m.g) (a.eval y).cells.toList off w
  exact ⟨fun _ _ h => h, fun _ h => h, ho'.size, fun k hp hlt => ho'.block k hlt (fun e => hp.elim (fun hp => cx.pm k hp (e ▸ (hh.at hb' hm hnl).2)) (fun hz => hh.zf b m (by rw [hb']; simp) hm hnl (e ▸ hz)))⟩
 have hrow : Row cx.p ρ (w.setCells m.g off (a.eval y).cells.toList) m T cs' := by
  refine ⟨_, rest, hB, by rw [ka4, lW, ← ka4]; exact h2, ?_⟩
  rw [← hc]
  exact (All2.upd off h4 h3).imp fun _ _ => RepC.mono hgo
 obtain ⟨q1, q2, q3⟩ := hw hrow
 unfold Oper.wp execOp
 simp only [ho, ex, Sem.run_bind, hr, Result.andThen_ok, Sem.run_pure, Oper.upon_skip]
 exact hK undef _ ρ q1 (fun _ _ h => h) q2 q3 trivial
theorem o8 {nx : Nat} {T : TypeId} {cs : List C} (H : ∀ ρ a w, uP cx.p ρ w l o.op.operands a → ∃ vs : List Value, (execOp a.eval o).run Try.prog w = .ok (.value (.pointer (some ⟨w.heap.size, 0, none⟩))) (w.alloc (.cells vs.toArray T)) ∧ All2 (RepC cx.p ρ w) cs vs) :
  OpOK cx o (S l) (S g) ⟨.e (.c (.ptr nx 0)), [(nx, some (T, cs))], [nx], []⟩ := by
 intro Q ρ a w hL hs _ hnews hh hk hdf K hK
 obtain ⟨vs, h1, h2⟩ := H ρ a w hs
 obtain ⟨q1, q2, q3⟩ := hh.new hk (nx := nx) (gn := w.heap.size) (T := T) (rest := []) (hnews nx (by simp)) h2 (w' := w.alloc (.cells vs.toArray T)) (by rw [List.append_nil]; exact mZ (heap_alloc_new w _)) (Nat.le_refl _) rfl rfl rfl (by simp) (fun k hk => Below.heap_alloc _ _ _ hk)
 unfold Oper.wp
 rw [h1]
 refine hK _ _ _ q1 (fun b hb hn => ?_) q2 q3 ?_
 ·have : b ≠ nx := by simpa using hb
  simp [this, hn]
 ·exact .ptr nx 0 ⟨w.heap.size, _, false⟩ (by simp; rfl) rfl
theorem pI {nx : Nat} {T : TypeId} {zs : List Value} (ho : o.op = .alloc T) (hz : v7 Try.prog T = some zs) (h1 : zs.all (·.oneCell') = true) : OpOK cx o (S l) (S g) ⟨.e (.c (.ptr nx 0)), [(nx, some (T, zs.map LC))], [nx], []⟩ :=
 o8 fun ρ a w hs => by
  unfold v7 at hz
  split at hz
  ·rename_i i hi
   obtain ⟨z, hz1, hz2⟩ := Option.map_eq_some_iff.1 hz
   refine ⟨zs, ?_, ?_⟩
   ·unfold execOp
    have e : z.cells = zs.toArray := by rw [← hz2]
    simp [ho, Instr.alloc, zeroValue, typeInfo, hi, hz1, newVar, newRow, e]
   ·refine All2.mk (by simp) ?_
    intro j c u hj hu
    rw [ke5, hu] at hj
    simp at hj
    subst hj
    exact .d (.lit _ (List.all_eq_true.1 h1 u (List.mem_of_getElem? hu)))
  ·cases hz
theorem k0c {nx : Nat} {T : TypeId} {x : Operand} {e : E1} (ho : o.op = .box T x) (hx : Ev l x (.e e)) : OpOK cx o (S l) (S g) ⟨.e (.c (.ptr nx 0)), [(nx, some (T, qL e))], [nx], []⟩ :=
 o8 fun ρ a w hs => by
  have hye : RepE cx.p ρ w e (a.eval x) := hx.rep hs (by rw [ho]; simp [Op.operands])
  exact ⟨(a.eval x).cells.toList, by unfold execOp; simp [ho, Instr.box, newVar, newRow], hye.cells.1⟩
theorem fV {t : TypeId} {x : Operand} {i b off k n r : Nat} {bb : Bool} (ho : o.op = .fieldAddr t x i) (hf : aZ Try.prog t i = some (k, bb, n + 1)) (hx : Ev l x (.e (.c (.ptr b off)))) (hr : off + k = r) : OpOK cx o (S l) (S g) ⟨.e (.c (.ptr b r)), [], [], []⟩ :=
 kJ fun ρ a w hs => by
  obtain ⟨m, hm, hn, e⟩ := yH (hx.rep hs (by rw [ho]; simp [Op.operands]))
  obtain ⟨fs, f, h1, h2, h3, h4⟩ := y6 hf
  subst hr
  subst h3
  refine ⟨_, ?_, .ptr b _ m hm hn⟩
  unfold execOp
  simp [ho, e, Instr.fieldAt, run_underlying h1, h2, Instr.sureAddr, fieldPlace, k9 h4, Addr.add_mid]
theorem bZ {t : TypeId} {x : Operand} {i k n : Nat} {bb : Bool} {ds ds' : List D} (ho : o.op = .fieldAddr t x i) (hf : aZ Try.prog t i = some (k, bb, n + 1)) (hx : Ev l x (.e (.c (.rp ds)))) (hr : ds.drop k = ds') : OpOK cx o (S l) (S g) ⟨.e (.c (.rp ds')), [], [], []⟩ :=
 kJ fun ρ a w hs => by
  obtain ⟨fs, f, h1, h2, h3, h4⟩ := y6 hf
  subst hr
  subst h3
  obtain ⟨us, b, off, hl, hcc, hr, hp, hlt, e⟩ := jU (hx.rep hs (by rw [ho]; simp [Op.operands]))
  refine ⟨.pointer (some ⟨b, off + f.offset, none⟩), ?_, .rp _ (us.drop f.offset) b _ (by simp [hl]) ?_ ?_ hp hlt⟩
  ·unfold execOp
   simp [ho, e, Instr.fieldAt, run_underlying h1, h2, Instr.sureAddr, fieldPlace, k9 h4, Addr.add_mid]
  ·intro j u hj
   rw [kd8] at hj
   rw [Nat.add_assoc]; exact hcc _ u hj
  ·intro j d u hj hu
   rw [kd8] at hj hu
   exact hr _ d u hj hu
theorem pE {t : TypeId} {x : Operand} {i k : Nat} {cs : List C} {c : C} (ho : o.op = .field t x i) (hf : aZ Try.prog t i = some (k, false, 1)) (hx : Ev l x (.e (.agg cs))) (hc : cs[k]? = some c) : OpOK cx o (S l) (S g) ⟨.e (.c c), [], [], []⟩ :=
 kJ fun ρ a w hs => by
  obtain ⟨us, e, h5⟩ := hx.rep hs (by rw [ho]; simp [Op.operands])
  obtain ⟨fs, f, h1, h2, h3, h4⟩ := y6 hf
  subst h3
  have hi : f.offset < us.length := by have := (List.getElem?_eq_some_iff.1 hc).1; rw [← h5.len]; exact this
  refine ⟨us[f.offset], ?_, h5.get _ c _ hc (kb3 hi)⟩
  unfold execOp
  simp [ho, e, Instr.field, run_underlying h1, h2, asAgg, part, yU h4, hi]
theorem fU {t : TypeId} {x : Operand} {i k n : Nat} {cs cs' : List C} (ho : o.op = .field t x i) (hf : aZ Try.prog t i = some (k, true, n)) (hx : Ev l x (.e (.agg cs))) (hc : (cs.drop k).take n = cs') : OpOK cx o (S l) (S g) ⟨.e (.agg cs'), [], [], []⟩ :=
 kJ fun ρ a w hs => by
  obtain ⟨us, e, h5⟩ := hx.rep hs (by rw [ho]; simp [Op.operands])
  obtain ⟨fs, f, h1, h2, h3, h4⟩ := y6 hf
  subst h3
  subst hc
  refine ⟨.agg ((us.drop f.offset).take n).toArray, ?_, _, rfl, (h5.drop _).take n⟩
  unfold execOp
  simp [ho, e, Instr.field, run_underlying h1, h2, asAgg, part, yU h4, k9 h4, List.extract_eq_take_drop]
end
end Go.Proofs.Ytkjmlililpgamaa
