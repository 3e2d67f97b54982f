/- A call that draws from a deck of which so many numbers are left: no statement is proved here. -/
import Derived.Test.YtnfkcfogmficfaaDeckSt
import Derived.Deep.MidRow
namespace Go.Proofs.Ytnfkcfogmficfaa
open Go.ChangeShapes Go.WideShapes Go.ChangeAt Go.RowKit
set_option linter.unusedVariables false
set_option linter.unusedSimpArgs false

/-- the world w of a call that began in W: a deck in block d with r numbers left, and the blocks that it has made and still reads -/
structure DR (W w : World) (d r : Nat) (L : List (Nat × List Value × TypeId)) : Prop where
  deck : DeckAt w d r
  lv : Lv W w L
  lo : W.heap.size ≤ d
  off : ∀ x ∈ L, x.1 ≠ d
theorem DeckAt.set {w : World} {d c i r : Nat} {v : Value} (h : DeckAt w d r) (hc : d < c) : DeckAt (w.setCell ⟨c, i, none⟩ v) d r := by
  obtain ⟨a, len, cap, j, l, h1, h2, h3, h4⟩ := h
  refine ⟨a, len, cap, j, l, (Below.heap_setCell _ _ _ _ (by show d ≠ c; omega)).trans h1, ?_, h3, h4⟩
  exact sl_same (d := c) h2 (by simp [World.setCell]) (fun k _ hk => Below.heap_setCell _ _ _ _ hk) (fun k ad e => by have := h3 k ad e; omega)
theorem DR.kept {W w w' : World} {d r : Nat} {L : List (Nat × List Value × TypeId)} (h : DR W w d r L) (hb : Below w.heap.size w w') : DR W w' d r L := ⟨h.deck.kept hb, h.lv.kept hb, h.lo, h.off⟩
theorem DR.next {W w w' : World} {d r r' : Nat} {L : List (Nat × List Value × TypeId)} (h : DR W w d r L) (hk : DeckAt w' d r') (hb : But d w w') : DR W w' d r' L := ⟨hk, h.lv.turn d hb.os hb.tape hb.output hb.size hb.block h.lo h.off, h.lo, h.off⟩
theorem DR.alloc {W w : World} {d r : Nat} {vs : List Value} {T : TypeId} {L : List (Nat × List Value × TypeId)} (h : DR W w d r L) : DR W (w.alloc (.cells vs.toArray T)) d r ((w.heap.size, vs, T) :: L) :=
  ⟨h.deck.kept ((Below.refl _ _).alloc (Nat.le_refl _) _), h.lv.alloc, h.lo, fun x hx => by
    rcases List.mem_cons.1 hx with rfl | hx
    · exact (Nat.ne_of_lt h.deck.lt).symm
    · exact h.off x hx⟩
theorem DR.drew {W w : World} {d r : Nat} {L : List (Nat × List Value × TypeId)} (h : DR W w d r L) : DR W w.drew d r L := h.kept ((Below.refl _ _).drew)
theorem DR.drop {W w : World} {d r : Nat} {x : Nat × List Value × TypeId} {L : List (Nat × List Value × TypeId)} (h : DR W w d r (x :: L)) : DR W w d r L := ⟨h.deck, h.lv.drop, h.lo, fun y hy => h.off y (List.mem_cons_of_mem _ hy)⟩
theorem DR.size {W w : World} {d r : Nat} {L : List (Nat × List Value × TypeId)} (h : DR W w d r L) : W.heap.size ≤ w.heap.size := h.lv.size
theorem DR.set {W w : World} {d r b i : Nat} {v : Value} {vs : List Value} {T : TypeId} {L : List (Nat × List Value × TypeId)} (h : DR W w d r ((b, vs, T) :: L)) (hb : d < b) (hL : ∀ x ∈ L, x.1 ≠ b) : DR W (w.setCell ⟨b, i, none⟩ v) d r ((b, vs.set i v, T) :: L) := by
  have hbk : ∀ k, k < w.heap.size → k ≠ b → (w.setCell ⟨b, i, none⟩ v).heap[k]? = w.heap[k]? := fun k _ hk => Below.heap_setCell _ _ _ _ hk
  refine ⟨h.deck.set hb, ⟨h.lv.below.setCell (by have := h.lo; show W.heap.size ≤ b; omega) _, ?_, h.lv.live.2.far hbk hL⟩, h.lo, fun x hx => ?_⟩
  · have := heap_setCell_same w b i vs.toArray T v h.lv.live.1
    simpa using this
  · rcases List.mem_cons.1 hx with rfl | hx
    · exact (Nat.ne_of_lt hb).symm
    · exact h.off x (List.mem_cons_of_mem _ hx)
theorem new_dr (W : World) (a : Option Addr) (len cap : Nat) (l : List Int) (w : World) (L : List (Nat × List Value × TypeId)) (hs : Sl .i64 w a len cap l) (h : Lv W w L) :
    Calls Try.prog 23 #[.slice a len cap] w fun e w' => e = .returned (.pointer (some ⟨w.heap.size, 0, none⟩)) ∧ DR W w' w.heap.size len L :=
  (new_any a len cap l w hs).mono fun e w' ⟨h1, h2, h3⟩ => ⟨h1, h2, h.kept h3, h.size, fun x hx => by
    have : ∀ {M : List (Nat × List Value × TypeId)}, Live w M → ∀ y ∈ M, y.1 < w.heap.size := by
      intro M
      induction M with
      | nil => intro _ y hy; cases hy
      | cons z M ih =>
        intro hM y hy
        rcases List.mem_cons.1 hy with rfl | hy
        · exact (Array.getElem?_eq_some_iff.1 hM.1).1
        · exact ih hM.2 y hy
    exact Nat.ne_of_lt (this h.live x hx)⟩
theorem next_dr (W : World) (d r : Nat) (L : List (Nat × List Value × TypeId)) (n : Int) (h1 : 1 ≤ n) (h2 : n ≤ 1099511627776) (w : World) (h : DR W w d r L) :
    Calls Try.prog 63 #[.pointer (some ⟨d, 0, none⟩), .int .i64 n] w fun e w' => (∃ x : Int, e = .returned (.int .i64 x) ∧ 0 ≤ x ∧ x < n) ∧ DR W w' d (r - 1) L :=
  (next_any d r n h1 h2 w h.deck).mono fun e w' ⟨k1, k2, k3⟩ => ⟨k1, h.next k2 k3⟩
theorem left_dr (W : World) (d r : Nat) (L : List (Nat × List Value × TypeId)) (w : World) (h : DR W w d r L) :
    Calls Try.prog 62 #[.pointer (some ⟨d, 0, none⟩)] w fun e w' => e = .returned (.bool (decide (0 < r))) ∧ DR W w' d r L :=
  (left_any d r w h.deck).mono fun e w' ⟨k1, k2, k3⟩ => ⟨k1, h.kept k3⟩
end Go.Proofs.Ytnfkcfogmficfaa
