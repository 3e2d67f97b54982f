/- A call that throws its caller's dice, and the blocks that it has made and still reads. No statement is proved here. -/
import Derived.Test.YtbcifmddbhnkhaaDiceSt
import Derived.Test.YtbcifmddbhnkhaaLive
namespace Go.Proofs.Ytbcifmddbhnkhaa
open Go.ChangeShapes Go.WideShapes Go.ChangeAt Go.RowKit
set_option linter.unusedVariables false
set_option linter.unusedSimpArgs false

structure DL (W w : World) (d : Nat) (L : List (Nat × List Value × TypeId)) : Prop where
  st : St W w d
  live : Live w L
  far : ∀ x ∈ L, W.heap.size ≤ x.1
  lo : d < W.heap.size
theorem DL.start {w : World} {d : Nat} (h : DiceAt w d) : DL w w d [] := ⟨St.start h, trivial, fun x hx => (by cases hx), h.lt⟩
theorem DL.kept {W w w' : World} {d : Nat} {L : List (Nat × List Value × TypeId)} (h : DL W w d L) (hb : Below w.heap.size w w') : DL W w' d L := ⟨h.st.kept hb, h.live.kept hb, h.far, h.lo⟩
theorem DL.next {W w w' : World} {d : Nat} {L : List (Nat × List Value × TypeId)} (h : DL W w d L) (hk : DiceAt w' d) (hb : But d w w') : DL W w' d L :=
  ⟨h.st.next hk hb, h.live.turn hb.block (fun x hx => by have := h.far x hx; have := h.lo; omega), h.far, h.lo⟩
theorem DL.alloc {W w : World} {d : Nat} {vs : List Value} {T : TypeId} {L : List (Nat × List Value × TypeId)} (h : DL W w d L) : DL W (w.alloc (.cells vs.toArray T)) d ((w.heap.size, vs, T) :: L) :=
  ⟨h.st.kept ((Below.refl _ _).alloc (Nat.le_refl _) _), ⟨heap_alloc_new w _, h.live.kept ((Below.refl _ _).alloc (Nat.le_refl _) _)⟩, fun x hx => (by
    rcases List.mem_cons.1 hx with rfl | hx
    · exact h.st.but.size
    · exact h.far x hx), h.lo⟩
theorem DL.drew {W w : World} {d : Nat} {L : List (Nat × List Value × TypeId)} (h : DL W w d L) : DL W w.drew d L := h.kept ((Below.refl _ _).drew)
theorem DL.drop {W w : World} {d : Nat} {x : Nat × List Value × TypeId} {L : List (Nat × List Value × TypeId)} (h : DL W w d (x :: L)) : DL W w d L := ⟨h.st, h.live.2, fun y hy => h.far y (List.mem_cons_of_mem _ hy), h.lo⟩
theorem DL.lt {W w : World} {d b : Nat} {vs : List Value} {T : TypeId} {L : List (Nat × List Value × TypeId)} (h : DL W w d ((b, vs, T) :: L)) : b < w.heap.size := (Array.getElem?_eq_some_iff.1 h.live.1).1
theorem DL.facts {W w : World} {d : Nat} {L : List (Nat × List Value × TypeId)} (h : DL W w d L) : liveAt w L := h.live.at
theorem DL.set {W w : World} {d b i : Nat} {v : Value} (h : St W w d) (hd : d < W.heap.size) (hb : W.heap.size ≤ b) : St W (w.setCell ⟨b, i, none⟩ v) d := by
  have ho : ∀ k, k < w.heap.size → k ≠ b → (w.setCell ⟨b, i, none⟩ v).heap[k]? = w.heap[k]? := fun k _ hk => Below.heap_setCell _ _ _ _ hk
  have hs : w.heap.size ≤ (w.setCell ⟨b, i, none⟩ v).heap.size := by simp [World.setCell]
  exact ⟨h.dice.far hs ho (by omega), ⟨h.but.os, h.but.tape, h.but.output, Nat.le_trans h.but.size hs, fun k hk hkd => (ho k (Nat.lt_of_lt_of_le hk h.but.size) (by omega)).trans (h.but.block k hk hkd)⟩⟩
theorem DL.cell {W w : World} {d b o : Nat} {vs : List Value} {T : TypeId} {L : List (Nat × List Value × TypeId)} {v : Value} (h : DL W w d ((b, vs, T) :: L)) (hv : vs[o]? = some v) : w.cell? ⟨b, o, none⟩ = some v :=
  (cell_of_row w b o vs.toArray T (0, 0) h.live.1).trans (by simpa using hv)
theorem next_dl (W : World) (d : Nat) (L : List (Nat × List Value × TypeId)) (n : Int) (h1 : 1 ≤ n) (h2 : n ≤ 9223372036854775807) (w : World) (h : DL W w d L) :
    Calls Try.prog 21 #[.pointer (some ⟨d, 0, none⟩), .int .i64 n] w fun e w' => (∃ r : Int, e = .returned (.int .i64 r) ∧ 0 ≤ r ∧ r < n) ∧ DL W w' d L :=
  (next_any d n h1 h2 w h.st.dice).mono fun e w' ⟨h3, h4, h5⟩ => ⟨h3, h.next h4 h5⟩
end Go.Proofs.Ytbcifmddbhnkhaa
