/- A region that draws its order, by facts: each operation that has come up has left its fact, and no operation harms another's. No statement is proved here. -/
import Derived.Test.YtbkjhfjjkihebaaBase
import Derived.Orders
import Derived.Deep.MidRow
import Derived.Great.BuildSlice
namespace Go.Proofs.Ytbkjhfjjkihebaa
open Go.ChangeShapes Go.WideShapes Go.ChangeAt Go.RowKit
set_option linter.unusedVariables false
set_option linter.unusedSimpArgs false

/-- what an operation has left in its place -/
def slotOf (a : Act) (o : Oper) : Value := match o.dst with
  | some t => a.tmps.getD t undef
  | none => undef
/-- the operations have no guards, write into places of their own, and wait for elder ones alone -/
def plainOps (ops : List Oper) : Bool :=
  (List.range ops.length).all fun i => match ops[i]? with
    | none => true
    | some o => o.guard.isNone && (o.after.all fun e => !Region.binds .any e || decide (e.on < i)) && (List.range ops.length).all fun j => match ops[j]? with
      | none => true
      | some o' => i == j || o.dst.isNone || !(o.dst == o'.dst)
/-- slots that no operation of the region writes -/
def farSlot (ops : List Oper) (t : Nat) : Bool := ops.all fun o => !(o.dst == some t)
structure RInv (ops : List Oper) (a0 : Act) (I : World → Prop) (F : Nat → Value → World → Prop) (listed : Array Bool) (a : Act) (w : World) : Prop where
  size : a.tmps.size = a0.tmps.size
  defers : a.defers = a0.defers
  far : ∀ t, farSlot ops t = true → a.tmps[t]? = a0.tmps[t]?
  inv : I w
  facts : ∀ j o, ops[j]? = some o → listed.getD j false = true → F j (slotOf a o) w
/-- what is asked of operation number i -/
def StepAt (P : Program) (ops : List Oper) (a0 : Act) (I : World → Prop) (F : Nat → Value → World → Prop) (Q : Exit → Act → World → Prop) (i : Nat) (o : Oper) : Prop :=
  ∀ (a : Act) (w : World), a.tmps.size = a0.tmps.size → a.defers = a0.defers → (∀ t, farSlot ops t = true → a.tmps[t]? = a0.tmps[t]?) → I w →
    (∀ e ∈ o.after.toList, Region.binds .any e = true → ∀ oe, ops[e.on]? = some oe → F e.on (slotOf a oe) w) →
    ∀ K : Act → World → Prop, (∀ v w', I w' → F i (if o.dst.isSome then v else undef) w' → (∀ j, j ≠ i → ∀ u, F j u w → F j u w') → K (a.put o.dst v) w') → o.wp P a w K Q
def StepsFrom (P : Program) (ops : List Oper) (a0 : Act) (I : World → Prop) (F : Nat → Value → World → Prop) (Q : Exit → Act → World → Prop) : Nat → List Oper → Prop
  | _, [] => True
  | k, o :: l => StepAt P ops a0 I F Q k o ∧ StepsFrom P ops a0 I F Q (k + 1) l
theorem steps_get {P : Program} {ops : List Oper} {a0 : Act} {I : World → Prop} {F : Nat → Value → World → Prop} {Q : Exit → Act → World → Prop} :
    ∀ (l : List Oper) (k : Nat), StepsFrom P ops a0 I F Q k l → ∀ i o, l[i]? = some o → StepAt P ops a0 I F Q (k + i) o := by
  intro l
  induction l with
  | nil => intro k _ i o h; simp at h
  | cons x l ih =>
    intro k h i o hi
    cases i with
    | zero => simp at hi; subst hi; exact h.1
    | succ i => have := ih (k + 1) h.2 i o (by simpa using hi); rw [show k + (i + 1) = k + 1 + i by omega]; exact this

theorem slot_put_same {a : Act} {o : Oper} {v : Value} (hs : ∀ t, o.dst = some t → t < a.tmps.size) : slotOf (a.put o.dst v) o = if o.dst.isSome then v else undef := by
  unfold slotOf Act.put
  cases h : o.dst with
  | none => simp
  | some t => have := hs t h; simp [Array.getD_eq_getD_getElem?, this]
theorem slot_put_other {a : Act} {o o' : Oper} {v : Value} (hne : o.dst.isNone = true ∨ o.dst ≠ o'.dst) : slotOf (a.put o.dst v) o' = slotOf a o' := by
  unfold slotOf Act.put
  cases h : o.dst with
  | none => rfl
  | some t =>
    cases h' : o'.dst with
    | none => rfl
    | some t' =>
      have : t ≠ t' := by rcases hne with h1 | h1 <;> simp_all
      simp [Array.getD_eq_getD_getElem?, Array.getElem?_setIfInBounds_ne this]

theorem getD_set_same {l : Array Bool} {i : Nat} (h : i < l.size) (b d : Bool) : (l.setIfInBounds i b).getD i d = b := by
  simp [Array.getD_eq_getD_getElem?, h]
theorem getD_set_other {l : Array Bool} {i j : Nat} (h : i ≠ j) (b d : Bool) : (l.setIfInBounds i b).getD j d = l.getD j d := by
  simp [Array.getD_eq_getD_getElem?, Array.getElem?_setIfInBounds_ne h]

/-- where nothing may come up, all has come up -/
theorem all_listed {ops : List Oper} (hp : plainOps ops = true) {listed : Array Bool} (hs : listed.size = ops.length) (hr : Region.ready .any ops.toArray listed = []) : ∀ j, j < ops.length → listed.getD j false = true := by
  intro j
  induction j using Nat.strongRecOn with
  | ind j ih =>
    intro hj
    cases hl : listed.getD j false with
    | true => rfl
    | false =>
      exfalso
      have : j ∈ Region.ready .any ops.toArray listed := by
        rw [mem_ready]
        refine ⟨?_, ops[j], by simp [hj], fun e he hb => ?_⟩
        · have : j < listed.size := by omega
          simp [Array.getD_eq_getD_getElem?, this] at hl ⊢
          exact hl
        · unfold plainOps at hp
          rw [List.all_eq_true] at hp
          have h1 := hp j (List.mem_range.2 hj)
          simp only [List.getElem?_eq_getElem hj, Bool.and_eq_true] at h1
          have h2 := h1.1.2
          rw [Array.all_eq_true_iff_forall_mem] at h2
          have h3 := h2 e he
          simp [hb] at h3
          exact ih e.on h3 (by omega)
      rw [hr] at this
      cases this

theorem wp_any_facts {P : Program} {ops : List Oper} {a0 : Act} {I : World → Prop} {F : Nat → Value → World → Prop} {Q : Exit → Act → World → Prop}
    (hp : plainOps ops = true) (hd : ∀ o ∈ ops, ∀ t, o.dst = some t → t < a0.tmps.size)
    (hstep : StepsFrom P ops a0 I F Q 0 ops)
    (hend : ∀ a w, a.tmps.size = a0.tmps.size → a.defers = a0.defers → (∀ t, farSlot ops t = true → a.tmps[t]? = a0.tmps[t]?) → I w → (∀ j o, ops[j]? = some o → F j (slotOf a o) w) → Q .normal a w) :
    ∀ (fuel : Nat) (listed : Array Bool) (a : Act) (w : World), listed.size = ops.length → listed.toList.countP (!·) ≤ fuel → RInv ops a0 I F listed a w → wpAny P .any ops.toArray Q fuel listed a w := by
  intro fuel
  have fin : ∀ (listed : Array Bool) (a : Act) (w : World), listed.size = ops.length → RInv ops a0 I F listed a w → Region.ready .any ops.toArray listed = [] → Q .normal a w := by
    intro listed a w hs h hr
    exact hend a w h.size h.defers h.far h.inv fun j o hj => h.facts j o hj (all_listed hp hs hr j (List.getElem?_eq_some_iff.1 hj).1)
  induction fuel with
  | zero =>
    intro listed a w hs hc h
    have hall : ∀ b ∈ listed.toList, b = true := by
      intro b hb
      cases b with
      | true => rfl
      | false => have : 0 < listed.toList.countP (!·) := List.countP_pos_iff.2 ⟨false, hb, rfl⟩; omega
    have hr : Region.ready .any ops.toArray listed = [] := by
      cases hrr : Region.ready .any ops.toArray listed with
      | nil => rfl
      | cons x xs =>
        exfalso
        have hx : x ∈ Region.ready .any ops.toArray listed := by rw [hrr]; exact List.mem_cons_self ..
        obtain ⟨h1, o, h2, _⟩ := mem_ready.1 hx
        have hx2 : x < listed.size := by rw [hs]; simpa using (Array.getElem?_eq_some_iff.1 h2).1
        have := hall listed[x] (by simp)
        simp [Array.getD_eq_getD_getElem?, hx2, this] at h1
    exact ⟨hr, fin listed a w hs h hr⟩
  | succ fuel ih =>
    intro listed a w hs hc h
    refine ⟨fin listed a w hs h, fun i hi => ?_⟩
    obtain ⟨h1, o, h2, h3⟩ := mem_ready.1 hi
    have hil : i < ops.length := by simpa using (Array.getElem?_eq_some_iff.1 h2).1
    have hils : i < listed.size := by omega
    have ho : ops[i]? = some o := by simpa using h2
    have hom : o ∈ ops := List.mem_of_getElem? ho
    have hpi := hp
    unfold plainOps at hpi
    rw [List.all_eq_true] at hpi
    have hpo := hpi i (List.mem_range.2 hil)
    simp only [ho, Bool.and_eq_true] at hpo
    have hstep' := steps_get ops 0 hstep i o ho
    rw [Nat.zero_add] at hstep'
    have hwp := hstep' a w h.size h.defers h.far h.inv (fun e he hb oe hoe => h.facts e.on oe hoe (h3 e (by simpa using he) hb))
      (fun a' w' => ∃ v, a' = a.put o.dst v ∧ I w' ∧ F i (if o.dst.isSome then v else undef) w' ∧ ∀ j, j ≠ i → ∀ u, F j u w → F j u w') (fun v w' h1 h2 h3 => ⟨v, rfl, h1, h2, h3⟩)
    refine wpOp_step h2 fun K' hK => ?_
    rw [if_pos (by unfold Region.wanted; have := hpo.1.1; cases hg : o.guard <;> simp_all)]
    refine Oper.wp_mono (fun a' w' hh => hK a' w' ?_) hwp
    obtain ⟨v, rfl, hI, hF, hkeep⟩ := hh
    refine ih _ _ _ (by simpa using hs) ?_ ⟨?_, ?_, ?_, hI, ?_⟩
    · have hlf : listed[i] = false := by simpa [Array.getD_eq_getD_getElem?, hils] using h1
      have hpos : 0 < listed.toList.countP (!·) := List.countP_pos_iff.2 ⟨false, by rw [← hlf]; simp, rfl⟩
      rw [Array.toList_setIfInBounds, List.countP_set (by simpa using hils)]
      simp only [Array.getElem_toList, hlf]
      have e : ∀ n : Nat, n - (if (!false) = true then 1 else 0) + (if (!true) = true then 1 else 0) ≤ fuel ↔ n - 1 ≤ fuel := fun n => by simp
      rw [e]
      omega
    · have : (a.put o.dst v).tmps.size = a.tmps.size := by unfold Act.put; cases o.dst <;> simp
      rw [this]; exact h.size
    · have : (a.put o.dst v).defers = a.defers := by unfold Act.put; cases o.dst <;> simp
      rw [this]; exact h.defers
    · intro t ht
      rw [← h.far t ht]
      unfold farSlot at ht
      rw [List.all_eq_true] at ht
      have := ht o hom
      unfold Act.put
      cases hdd : o.dst with
      | none => rfl
      | some t' =>
        have hne : t' ≠ t := by intro e; subst e; simp [hdd] at this
        simp [Array.getElem?_setIfInBounds_ne hne]
    · intro j oj hj hl
      by_cases hji : j = i
      · subst hji
        have : oj = o := by rw [hj] at ho; exact Option.some.inj ho
        subst this
        rw [slot_put_same (fun t ht => by rw [h.size]; exact hd _ hom t ht)]
        exact hF
      · rw [getD_set_other (Ne.symm hji)] at hl
        have hjl : j < ops.length := (List.getElem?_eq_some_iff.1 hj).1
        have hdist := hpo.2
        rw [List.all_eq_true] at hdist
        have hdj := hdist j (List.mem_range.2 hjl)
        simp only [hj] at hdj
        rw [slot_put_other (by
          have hij : ¬ (i == j) = true := by simp; exact fun e => hji e.symm
          cases hdd : o.dst with
          | none => exact .inl rfl
          | some t => right; intro e; simp [hij, hdd] at hdj; exact hdj e)]
        exact hkeep j hji _ (h.facts j oj hj hl)

theorem wp_region_facts {P : Program} {ops : List Oper} {id : Nat} {a0 : Act} {w0 : World} {Q : Exit → Act → World → Prop} (I : World → Prop) (F : Nat → Value → World → Prop)
    (hm : P.follows .mixedOrders = true) (hp : plainOps ops = true) (hd : (ops.all fun o => match o.dst with | some t => decide (t < a0.tmps.size) | none => true) = true) (hI : I w0.drew)
    (hstep : StepsFrom P ops a0 I F Q 0 ops)
    (hend : ∀ a w, a.tmps.size = a0.tmps.size → a.defers = a0.defers → (∀ t, farSlot ops t = true → a.tmps[t]? = a0.tmps[t]?) → I w → (∀ j o, ops[j]? = some o → F j (slotOf a o) w) → Q .normal a w) :
    (Code.region id ops.toArray true).wp P Q a0 w0 := by
  refine wp_region_any hm (wp_any_facts (I := I) (F := F) hp ?_ hstep hend _ _ _ _ (by simp) ?_ ⟨rfl, rfl, fun _ _ => rfl, hI, ?_⟩)
  · intro o ho t ht
    rw [List.all_eq_true] at hd
    have := hd o ho
    simpa [ht] using this
  · have := List.countP_le_length (p := fun b : Bool => !b) (l := (Array.replicate ops.toArray.size false).toList)
    simpa using this
  · intro j o hj hl
    have hjl : j < ops.length := (List.getElem?_eq_some_iff.1 hj).1
    simp [Array.getD_eq_getD_getElem?, hjl] at hl

/-- block b holds these cells -/
def Blk (w : World) (b : Nat) (vs : List Value) (T : TypeId) : Prop := w.heap[b]? = some (.cells vs.toArray T (0, 0))
theorem Blk.lt {w : World} {b : Nat} {vs : List Value} {T : TypeId} (h : Blk w b vs T) : b < w.heap.size := (Array.getElem?_eq_some_iff.1 h).1
theorem Blk.cell {w : World} {b : Nat} {vs : List Value} {T : TypeId} (h : Blk w b vs T) (i : Nat) {v : Value} (hv : vs[i]? = some v) : w.cell? ⟨b, i, none⟩ = some v := (cell_of_row w b i vs.toArray T (0, 0) h).trans (by simpa using hv)
theorem Blk.frozen {w : World} {b : Nat} {vs : List Value} {T : TypeId} (h : Blk w b vs T) (i : Nat) : w.frozen? ⟨b, i, none⟩ = false := frozen_of_row w b i vs.toArray T h
theorem Blk.alloc_new (w : World) (vs : List Value) (T : TypeId) : Blk (w.alloc (.cells vs.toArray T)) w.heap.size vs T := heap_alloc_new w _
theorem Blk.kept {w w' : World} {b : Nat} {vs : List Value} {T : TypeId} (h : Blk w b vs T) (hb : Below w.heap.size w w') : Blk w' b vs T := (hb.block b h.lt).trans h
theorem Blk.range {w : World} {b : Nat} {vs cs : List Value} {T : TypeId} (h : Blk w b vs T) (o : Nat) (hc : ∀ j v, cs[j]? = some v → vs[o + j]? = some v) : w.rangeAt b o cs := fun j v hv => h.cell (o + j) (hc j v hv)
theorem Blk.there {w : World} {b : Nat} {vs : List Value} {T : TypeId} (h : Blk w b vs T) (o n : Nat) (hn : o + n ≤ vs.length) : w.there b o n := by
  intro j hj
  exact ⟨by rw [h.cell (o + j) (List.getElem?_eq_getElem (by omega))]; rfl, h.frozen _⟩
/-- a list whose cells from o on are overwritten -/
def upd : List Value → Nat → List Value → List Value
  | cur, _, [] => cur
  | cur, o, v :: r => upd (cur.set o v) (o + 1) r
theorem Blk.set {w : World} {b : Nat} {vs : List Value} {T : TypeId} (h : Blk w b vs T) (i : Nat) (v : Value) : Blk (w.setCell ⟨b, i, none⟩ v) b (vs.set i v) T := by
  have := heap_setCell_same w b i vs.toArray T v h
  simpa [Blk] using this
theorem Blk.setCells {b : Nat} {T : TypeId} : ∀ (r : List Value) (o : Nat) (w : World) (cur : List Value), Blk w b cur T → Blk (w.setCells b o r) b (upd cur o r) T
  | [], _, _, _, h => h
  | v :: r, o, w, cur, h => Blk.setCells r (o + 1) _ _ (h.set o v)
/-- of the blocks that were there block d alone may have changed -/
structure Only (d : Nat) (w w' : World) : Prop where
  os : w'.os = w.os
  tape : w'.tape = w.tape
  output : w'.output = w.output
  size : w.heap.size ≤ w'.heap.size
  block : ∀ k, k < w.heap.size → k ≠ d → w'.heap[k]? = w.heap[k]?
theorem Only.refl (d : Nat) (w : World) : Only d w w := ⟨rfl, rfl, rfl, Nat.le_refl _, fun _ _ _ => rfl⟩
theorem Only.trans {d : Nat} {a b c : World} (h : Only d a b) (k : Only d b c) : Only d a c :=
  ⟨k.os.trans h.os, k.tape.trans h.tape, k.output.trans h.output, Nat.le_trans h.size k.size, fun i hi hd => (k.block i (Nat.lt_of_lt_of_le hi h.size) hd).trans (h.block i hi hd)⟩
theorem Only.of_below {d : Nat} {w w' : World} (h : Below w.heap.size w w') : Only d w w' := ⟨h.os, h.tape, h.output, h.size, fun k hk _ => h.block k hk⟩
theorem Only.below {d B : Nat} {w w' : World} (h : Only d w w') (hB : B ≤ d) (hB2 : B ≤ w.heap.size) : Below B w w' := ⟨h.os, h.tape, h.output, h.size, fun k hk => h.block k (by omega) (by omega)⟩
theorem Blk.only {w w' : World} {b d : Nat} {vs : List Value} {T : TypeId} (h : Blk w b vs T) (hb : Only d w w') (hd : b ≠ d) : Blk w' b vs T := (hb.block b h.lt hd).trans h
theorem only_setCells {b : Nat} : ∀ (r : List Value) (o : Nat) (w : World), Only b w (w.setCells b o r)
  | [], _, w => Only.refl b w
  | v :: r, o, w => Only.trans (⟨rfl, rfl, rfl, by simp [World.setCell], fun k _ hk => Below.heap_setCell _ _ _ _ hk⟩ : Only b w (w.setCell ⟨b, o, none⟩ v)) (only_setCells r (o + 1) _)

/-! operations, each in whatever state -/
section
variable {P : Program} {op : Oper} {a : Act} {w : World} {K : Act → World → Prop} {Q : Exit → Act → World → Prop}
theorem wp_value (v : Value) (h : (execOp a.eval op).run P w = .ok (.value v) w) (hK : K (a.put op.dst v) w) : op.wp P a w K Q := by unfold Oper.wp; rw [h]; exact hK
theorem wp_move (x : Operand) (ho : op.op = .move x ∨ op.op = .assign x) (v : Value) (hx : a.eval x = v) (hK : K (a.put op.dst v) w) : op.wp P a w K Q := by
  refine wp_value v ?_ hK
  rcases ho with ho | ho <;> (unfold execOp; simp only [ho, hx]; rfl)
theorem wp_store_blk (ty : TypeId) (x y : Operand) (ho : op.op = .store ty x y) (b : Nat) (hx : a.eval x = .pointer (some ⟨b, 0, none⟩)) (cells : List Value) (hy : a.eval y = .agg cells.toArray)
    (cur : List Value) (T : TypeId) (hb : Blk w b cur T) (hl : cur.length = cells.length) (hi : (P.info? ty).map (·.size) = some cells.length) (h1 : ∀ v ∈ cells, v.oneCell' = true)
    (hK : ∀ w', Blk w' b (upd cur 0 cells) T → Only b w w' → K (a.put op.dst undef) w') : op.wp P a w K Q :=
  wp_store_mid ty x y ho b 0 cells.toArray hx hy (hb.there 0 _ (by simp; omega)) (by simpa using hi) (all_oneCell_toArray h1) (hK _ (Blk.setCells cells 0 w cur hb) (only_setCells cells 0 w))
theorem wp_load_blk (ty : TypeId) (x : Operand) (ho : op.op = .load ty x) (b o : Nat) (hx : a.eval x = .pointer (some ⟨b, o, none⟩)) (cs vs : List Value) (T : TypeId) (hb : Blk w b vs T) (hc : ∀ j v, cs[j]? = some v → vs[o + j]? = some v)
    (d : TypeDesc) (hu : P.underlying ty = some d) (hd : d.isRow = true) (hi : (P.info? ty).map (·.size) = some cs.length) (hK : K (a.put op.dst (.agg cs.toArray)) w) : op.wp P a w K Q :=
  wp_load_mid ty x ho b o hx cs d (hb.range o hc) hu hd hi hK
theorem wp_index_addr (t e : TypeId) (x ix : Operand) (ho : op.op = .indexAddr t x ix) (hu : P.underlying t = some (.slice e)) (sz : Nat) (hs : (P.info? e).map (·.size) = some sz) (b o len cap : Nat) (hx : a.eval x = .slice (some ⟨b, o, none⟩) len cap)
    (k : IntKind) (i : Int) (hi : a.eval ix = .int k i) (h0 : 0 ≤ i) (h1 : i < len) (hK : K (a.put op.dst (.pointer (some ⟨b, o + i.toNat * sz, none⟩))) w) : op.wp P a w K Q := by
  refine wp_value _ ?_ hK
  obtain ⟨ie, h2, h3⟩ := Option.map_eq_some_iff.1 hs
  have h4 : P.underlying t = some (.slice (P.elem t)) := by simp [Program.elem, hu]
  have h5 : P.elem t = e := by simp [Program.elem, hu]
  have hr := run_indexAt_slice (P := P) (w := w) t ⟨b, o, none⟩ len cap k i h4
  rw [if_pos ⟨h0, h1⟩, h5] at hr
  unfold execOp
  simp only [ho, hx, hi, Sem.run_bind, hr]
  simp [sizeOf, typeInfo, h2, h3, Result.andThen, Addr.add]
theorem wp_load_cell (ty : TypeId) (x : Operand) (ho : op.op = .load ty x) (ad : Addr) (hx : a.eval x = .pointer (some ad)) (v : Value) (hr : (Instr.loadAt ty (.pointer (some ad))).run P w = .ok v w) (hK : K (a.put op.dst v) w) : op.wp P a w K Q := by
  refine wp_value v ?_ hK
  unfold execOp
  simp only [ho, hx, Sem.run_bind, hr, Result.andThen_ok, Sem.run_pure]
theorem wp_fn (f : FuncId) (args : List Operand) (ts : Array TypeId) (ho : op.op = .call { callee := .value (.func f), args := args.toArray, argTypes := ts }) (vals : List Value) (hv : args.map a.eval = vals) (hf : ∀ (ar : Array Value) (w : World), (callFunc f ar).run P w = .ok (.enter f ar) w)
    {R : Ending → World → Prop} (hc : Calls P f vals.toArray w R) (hK : ∀ e w', R e w' → ∃ v, e = .returned v ∧ K (a.put op.dst v) w') : op.wp P a w K Q := by
  unfold Oper.wp execOp
  subst hv
  simp only [ho, resolve, Act.eval, Deferred.ofValue, Sem.run_bind, Sem.run_pure, Result.andThen_ok, invoke, List.map_toArray, Array.empty_append, List.append_toArray, List.nil_append, List.append_nil, hf, Oper.upon]
  refine hc.mono fun e w' he => ?_
  obtain ⟨v, rfl, h⟩ := hK e w' he
  exact h
end
theorem two_of {vs : List Value} {o : Nat} {p q : Value} (h0 : vs[o]? = some p) (h1 : vs[o + 1]? = some q) : ∀ j v, [p, q][j]? = some v → vs[o + j]? = some v := by
  intro j v hj
  match j, hj with
  | 0, hj => simp at hj; subst hj; exact h0
  | 1, hj => simp at hj; subst hj; exact h1
theorem tmp_eval {a : Act} {t : Tmp} {v : Value} (h : a.eval (.tmp t) = v) : a.tmps[t]?.getD undef = v := by
  rw [← h]; simp [Act.eval, Array.getD_eq_getD_getElem?]
theorem far_eval {a a0 : Act} {t : Tmp} {v : Value} (h : a.tmps[t]? = a0.tmps[t]?) (h0 : a0.tmps[t]? = some v) : a.eval (.tmp t) = v := by
  simp [Act.eval, Array.getD_eq_getD_getElem?, h, h0]
end Go.Proofs.Ytbkjhfjjkihebaa
