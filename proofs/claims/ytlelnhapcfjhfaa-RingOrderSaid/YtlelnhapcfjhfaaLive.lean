/- The blocks that a call has made and still reads, as one list: no statement is proved here. -/
import Derived.Test.YtlelnhapcfjhfaaBase
import Derived.Handy
namespace Go.Proofs.Ytlelnhapcfjhfaa
open Go.ChangeShapes Go.WideShapes Go.ChangeAt Go.RowKit
set_option linter.unusedVariables false
set_option linter.unusedSimpArgs false

def cellsAt (w : World) (b : Nat) : Nat → List Value → Prop
  | _, [] => True
  | i, v :: vs => w.cell? ⟨b, i, none⟩ = some v ∧ w.frozen? ⟨b, i, none⟩ = false ∧ cellsAt w b (i + 1) vs
def Live (w : World) : List (Nat × List Value × TypeId) → Prop
  | [] => True
  | (b, vs, T) :: L => w.heap[b]? = some (.cells vs.toArray T (0, 0)) ∧ Live w L
def liveAt (w : World) : List (Nat × List Value × TypeId) → Prop
  | [] => True
  | (b, vs, T) :: L => cellsAt w b 0 vs ∧ liveAt w L
theorem cellsAt_of {w : World} {b : Nat} {all : Array Value} {T : TypeId} (h : w.heap[b]? = some (.cells all T (0, 0))) : ∀ (vs : List Value) (i : Nat), (∀ j, j < vs.length → all[i + j]? = vs[j]?) → cellsAt w b i vs := by
  intro vs
  induction vs with
  | nil => intro i _; trivial
  | cons v vs ih =>
    intro i hi
    refine ⟨(cell_of_row w b i all T (0, 0) h).trans (by have := hi 0 (by simp); simpa using this), frozen_of_row w b i all T h, ih (i + 1) fun j hj => ?_⟩
    have := hi (j + 1) (by simp; omega)
    rw [show i + (j + 1) = i + 1 + j by omega] at this
    simpa using this
theorem Live.at {w : World} : ∀ {L : List (Nat × List Value × TypeId)}, Live w L → liveAt w L
  | [], _ => trivial
  | (b, vs, T) :: L, h => ⟨cellsAt_of h.1 vs 0 fun j hj => by simp, Live.at h.2⟩
theorem Live.kept {w w' : World} : ∀ {L : List (Nat × List Value × TypeId)}, Live w L → Below w.heap.size w w' → Live w' L
  | [], _, _ => trivial
  | (b, vs, T) :: L, h, hb => ⟨(hb.block b (Array.getElem?_eq_some_iff.1 h.1).1).trans h.1, Live.kept h.2 hb⟩
/-- the world w of a call that began in W: what it has made, and that it has kept the rest -/
structure Lv (W w : World) (L : List (Nat × List Value × TypeId)) : Prop where
  below : Below W.heap.size W w
  live : Live w L
theorem Lv.start (W : World) : Lv W W [] := ⟨Below.refl _ _, trivial⟩
theorem Lv.kept {W w w' : World} {L : List (Nat × List Value × TypeId)} (h : Lv W w L) (hb : Below w.heap.size w w') : Lv W w' L := ⟨h.below.trans (hb.mono h.below.size), h.live.kept hb⟩
theorem Lv.alloc {W w : World} {vs : List Value} {T : TypeId} {L : List (Nat × List Value × TypeId)} (h : Lv W w L) : Lv W (w.alloc (.cells vs.toArray T)) ((w.heap.size, vs, T) :: L) :=
  have hb : Below w.heap.size w (w.alloc (.cells vs.toArray T)) := (Below.refl _ _).alloc (Nat.le_refl _) _
  ⟨(h.kept hb).below, heap_alloc_new w _, (h.kept hb).live⟩
theorem Lv.drewN {W w : World} {L : List (Nat × List Value × TypeId)} {n : Nat} (h : Lv W w L) : Lv W (w.drewN n) L := h.kept ⟨rfl, rfl, rfl, Nat.le_refl _, fun _ _ => rfl⟩
theorem Lv.drew {W w : World} {L : List (Nat × List Value × TypeId)} (h : Lv W w L) : Lv W w.drew L := h.kept ((Below.refl _ _).drew)
theorem Lv.drop {W w : World} {x : Nat × List Value × TypeId} {L : List (Nat × List Value × TypeId)} (h : Lv W w (x :: L)) : Lv W w L := ⟨h.below, h.live.2⟩
theorem Live.turn {w w' : World} {d : Nat} (hbk : ∀ k, k < w.heap.size → k ≠ d → w'.heap[k]? = w.heap[k]?) : ∀ {L : List (Nat × List Value × TypeId)}, Live w L → (∀ x ∈ L, x.1 ≠ d) → Live w' L
  | [], _, _ => trivial
  | (b, vs, T) :: L, h, hd => ⟨(hbk b (Array.getElem?_eq_some_iff.1 h.1).1 (hd _ (List.mem_cons_self ..))).trans h.1, Live.turn hbk h.2 fun x hx => hd x (List.mem_cons_of_mem _ hx)⟩
theorem Lv.turn {W w w' : World} {L : List (Nat × List Value × TypeId)} (h : Lv W w L) (d : Nat) (ho : w'.os = w.os) (ht : w'.tape = w.tape) (hout : w'.output = w.output) (hs : w.heap.size ≤ w'.heap.size) (hbk : ∀ k, k < w.heap.size → k ≠ d → w'.heap[k]? = w.heap[k]?) (hd : W.heap.size ≤ d) (hL : ∀ x ∈ L, x.1 ≠ d) : Lv W w' L :=
  ⟨⟨ho.trans h.below.os, ht.trans h.below.tape, hout.trans h.below.output, Nat.le_trans h.below.size hs, fun k hk => (hbk k (Nat.lt_of_lt_of_le hk h.below.size) (by omega)).trans (h.below.block k hk)⟩, h.live.turn hbk hL⟩
theorem Lv.size {W w : World} {L : List (Nat × List Value × TypeId)} (h : Lv W w L) : W.heap.size ≤ w.heap.size := h.below.size
theorem Lv.lt {W w : World} {b : Nat} {vs : List Value} {T : TypeId} {L : List (Nat × List Value × TypeId)} (h : Lv W w ((b, vs, T) :: L)) : b < w.heap.size := (Array.getElem?_eq_some_iff.1 h.live.1).1
theorem Lv.facts {W w : World} {L : List (Nat × List Value × TypeId)} (h : Lv W w L) : liveAt w L := h.live.at
end Go.Proofs.Ytlelnhapcfjhfaa
