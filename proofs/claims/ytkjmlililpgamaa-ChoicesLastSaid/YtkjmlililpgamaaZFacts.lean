/- A region that draws its order, by facts: each operation that has come up has left its fact, and no operation harms another's. No statement is proved here. -/
import Derived.Test.YtkjmlililpgamaaZBase
import Derived.Orders
import Derived.Deep.MidRow
import Derived.Great.BuildSlice
namespace Go.Proofs.Ytkjmlililpgamaa
open Go.ChangeShapes Go.WideShapes Go.ChangeAt Go.RowKit
set_option linter.unusedVariables false
set_option linter.unusedSimpArgs false
def vG (a : Act) (o : Oper) : Value := match o.dst with
  | some t => a.tmps.getD t undef
  | none => undef
def mK (ops : List Oper) (t : Nat) : Bool := ops.all fun o => !(o.dst == some t)
structure RInv (ops : List Oper) (a0 : Act) (I : World → Prop) (F : Nat → Value → World → Prop) (listed : Array Bool) (a : Act) (w : World) : Prop where
  size : a.tmps.size = a0.tmps.size
  defers : a.defers = a0.defers
  far : ∀ t, mK ops t = true → a.tmps[t]? = a0.tmps[t]?
  inv : I w
  facts : ∀ j o, ops[j]? = some o → listed.getD j false = true → F j (vG a o) w
theorem d1 {l : Array Bool} {i : Nat} (h : i < l.size) (b d : Bool) : (l.setIfInBounds i b).getD i d = b := by
  simp [Array.getD_eq_getD_getElem?, h]
theorem dD {l : Array Bool} {i j : Nat} (h : i ≠ j) (b d : Bool) : (l.setIfInBounds i b).getD j d = l.getD j d := by
  simp [Array.getD_eq_getD_getElem?, Array.getElem?_setIfInBounds_ne h]
def Blk (w : World) (b : Nat) (vs : List Value) (T : TypeId) : Prop := w.heap[b]? = some (.cells vs.toArray T (0, 0))
theorem Blk.lt {w : World} {b : Nat} {vs : List Value} {T : TypeId} (h : Blk w b vs T) : b < w.heap.size := (Array.getElem?_eq_some_iff.1 h).1
theorem Blk.cell {w : World} {b : Nat} {vs : List Value} {T : TypeId} (h : Blk w b vs T) (i : Nat) {v : Value} (hv : vs[i]? = some v) : w.cell? ⟨b, i, none⟩ = some v := (cell_of_row w b i vs.toArray T (0, 0) h).trans (by simpa using hv)
theorem Blk.frozen {w : World} {b : Nat} {vs : List Value} {T : TypeId} (h : Blk w b vs T) (i : Nat) : w.frozen? ⟨b, i, none⟩ = false := frozen_of_row w b i vs.toArray T h
theorem Blk.range {w : World} {b : Nat} {vs cs : List Value} {T : TypeId} (h : Blk w b vs T) (o : Nat) (hc : ∀ j v, cs[j]? = some v → vs[o + j]? = some v) : w.rangeAt b o cs := fun j v hv => h.cell (o + j) (hc j v hv)
theorem Blk.there {w : World} {b : Nat} {vs : List Value} {T : TypeId} (h : Blk w b vs T) (o n : Nat) (hn : o + n ≤ vs.length) : w.there b o n := by
  intro j hj
  exact ⟨by rw [h.cell (o + j) (List.getElem?_eq_getElem (by omega))]; rfl, h.frozen _⟩
def upd : List Value → Nat → List Value → List Value
  | cur, _, [] => cur
  | cur, o, v :: r => upd (cur.set o v) (o + 1) r
theorem Blk.set {w : World} {b : Nat} {vs : List Value} {T : TypeId} (h : Blk w b vs T) (i : Nat) (v : Value) : Blk (w.setCell ⟨b, i, none⟩ v) b (vs.set i v) T := by
  have := heap_setCell_same w b i vs.toArray T v h
  simpa [Blk] using this
theorem Blk.setCells {b : Nat} {T : TypeId} : ∀ (r : List Value) (o : Nat) (w : World) (cur : List Value), Blk w b cur T → Blk (w.setCells b o r) b (upd cur o r) T
  | [], _, _, _, h => h
  | v :: r, o, w, cur, h => Blk.setCells r (o + 1) _ _ (h.set o v)
structure Only (d : Nat) (w w' : World) : Prop where
  os : w'.os = w.os
  tape : w'.tape = w.tape
  output : w'.output = w.output
  size : w.heap.size ≤ w'.heap.size
  block : ∀ k, k < w.heap.size → k ≠ d → w'.heap[k]? = w.heap[k]?
theorem Only.refl (d : Nat) (w : World) : Only d w w := ⟨rfl, rfl, rfl, Nat.le_refl _, fun _ _ _ => rfl⟩
theorem Only.trans {d : Nat} {a b c : World} (h : Only d a b) (k : Only d b c) : Only d a c :=
  ⟨k.os.trans h.os, k.tape.trans h.tape, k.output.trans h.output, Nat.le_trans h.size k.size, fun i hi hd => (k.block i (Nat.lt_of_lt_of_le hi h.size) hd).trans (h.block i hi hd)⟩
theorem Only.below {d B : Nat} {w w' : World} (h : Only d w w') (hB : B ≤ d) (hB2 : B ≤ w.heap.size) : Below B w w' := ⟨h.os, h.tape, h.output, h.size, fun k hk => h.block k (by omega) (by omega)⟩
theorem yQ {b : Nat} : ∀ (r : List Value) (o : Nat) (w : World), Only b w (w.setCells b o r)
  | [], _, w => Only.refl b w
  | v :: r, o, w => Only.trans (⟨rfl, rfl, rfl, by simp [World.setCell], fun k _ hk => Below.heap_setCell _ _ _ _ hk⟩ : Only b w (w.setCell ⟨b, o, none⟩ v)) (yQ r (o + 1) _)
/-! operations, each in whatever state -/
section
variable {P : Program} {op : Oper} {a : Act} {w : World} {K : Act → World → Prop} {Q : Exit → Act → World → Prop}
theorem cH (v : Value) (h : (execOp a.eval op).run P w = .ok (.value v) w) (hK : K (a.put op.dst v) w) : op.wp P a w K Q := by unfold Oper.wp; rw [h]; exact hK
end
end Go.Proofs.Ytkjmlililpgamaa
