/- A call that draws from a deck: no statement is proved here. -/
import Derived.Test.YthmkkanjjlechaaDeck
import Derived.Test.YthmkkanjjlechaaLive
import Derived.Deep.RegionHeld3
import Derived.WalkLawsBesides
namespace Go.Proofs.Ythmkkanjjlechaa
open Go.ChangeShapes Go.WideShapes Go.ChangeAt Go.RowKit
set_option linter.unusedVariables false
set_option linter.unusedSimpArgs false

/-- the world w of a call that began in W: a deck in block d, and the blocks that it has made and still reads -/
structure DSt (W w : World) (d : Nat) (L : List (Nat × List Value × TypeId)) : Prop where
  deck : Deck w d
  lv : Lv W w L
  lo : W.heap.size ≤ d
  off : ∀ x ∈ L, x.1 ≠ d
theorem DSt.kept {W w w' : World} {d : Nat} {L : List (Nat × List Value × TypeId)} (h : DSt W w d L) (hb : Below w.heap.size w w') : DSt W w' d L := ⟨h.deck.kept hb, h.lv.kept hb, h.lo, h.off⟩
theorem DSt.next {W w w' : World} {d : Nat} {L : List (Nat × List Value × TypeId)} (h : DSt W w d L) (hk : Deck w' d) (hb : But d w w') : DSt W w' d L := ⟨hk, h.lv.turn d hb.os hb.tape hb.output hb.size hb.block h.lo h.off, h.lo, h.off⟩
theorem DSt.alloc {W w : World} {d : Nat} {vs : List Value} {T : TypeId} {L : List (Nat × List Value × TypeId)} (h : DSt W w d L) : DSt W (w.alloc (.cells vs.toArray T)) d ((w.heap.size, vs, T) :: L) :=
  ⟨h.deck.kept ((Below.refl _ _).alloc (Nat.le_refl _) _), h.lv.alloc, h.lo, fun x hx => by
    rcases List.mem_cons.1 hx with rfl | hx
    · exact (Nat.ne_of_lt h.deck.lt).symm
    · exact h.off x hx⟩
theorem DSt.drew {W w : World} {d : Nat} {L : List (Nat × List Value × TypeId)} (h : DSt W w d L) : DSt W w.drew d L := h.kept ((Below.refl _ _).drew)
theorem DSt.drop {W w : World} {d : Nat} {x : Nat × List Value × TypeId} {L : List (Nat × List Value × TypeId)} (h : DSt W w d (x :: L)) : DSt W w d L := ⟨h.deck, h.lv.drop, h.lo, fun y hy => h.off y (List.mem_cons_of_mem _ hy)⟩
theorem DSt.size {W w : World} {d : Nat} {L : List (Nat × List Value × TypeId)} (h : DSt W w d L) : W.heap.size ≤ w.heap.size := h.lv.size
theorem Live.far {w w' : World} {b : Nat} (hbk : ∀ k, k < w.heap.size → k ≠ b → w'.heap[k]? = w.heap[k]?) : ∀ {L : List (Nat × List Value × TypeId)}, Live w L → (∀ x ∈ L, x.1 ≠ b) → Live w' L := Live.turn hbk
theorem DSt.set {W w : World} {d b i : Nat} {v : Value} {vs : List Value} {T : TypeId} {L : List (Nat × List Value × TypeId)} (h : DSt W w d ((b, vs, T) :: L)) (hb : d < b) (hL : ∀ x ∈ L, x.1 ≠ b) : DSt W (w.setCell ⟨b, i, none⟩ v) d ((b, vs.set i v, T) :: L) := by
  have hbk : ∀ k, k < w.heap.size → k ≠ b → (w.setCell ⟨b, i, none⟩ v).heap[k]? = w.heap[k]? := fun k _ hk => Below.heap_setCell _ _ _ _ hk
  refine ⟨h.deck.set hb, ⟨h.lv.below.setCell (by have := h.lo; show W.heap.size ≤ b; omega) _, ?_, h.lv.live.2.far hbk hL⟩, h.lo, fun x hx => ?_⟩
  · have := heap_setCell_same w b i vs.toArray T v h.lv.live.1
    simpa using this
  · rcases List.mem_cons.1 hx with rfl | hx
    · exact (Nat.ne_of_lt hb).symm
    · exact h.off x (List.mem_cons_of_mem _ hx)
theorem next_dst (W : World) (d : Nat) (L : List (Nat × List Value × TypeId)) (n : Int) (h1 : 1 ≤ n) (h2 : n ≤ 1099511627776) (w : World) (h : DSt W w d L) :
    Calls Try.prog 65 #[.pointer (some ⟨d, 0, none⟩), .int .i64 n] w fun e w' => (∃ x : Int, e = .returned (.int .i64 x) ∧ 0 ≤ x ∧ x < n) ∧ DSt W w' d L :=
  (next_some d n h1 h2 w h.deck).mono fun e w' ⟨k1, k2, k3⟩ => ⟨k1, h.next k2 k3⟩
theorem range_dst (W : World) (d : Nat) (L : List (Nat × List Value × TypeId)) (lo hi : Int) (h0 : -1099511627776 ≤ lo) (h1 : lo ≤ hi) (h2 : hi ≤ 549755813888) (h3 : hi - lo < 1099511627776) (w : World) (h : DSt W w d L) :
    Calls Try.prog 64 #[.pointer (some ⟨d, 0, none⟩), .int .i64 lo, .int .i64 hi] w fun e w' => (∃ x : Int, e = .returned (.int .i64 x) ∧ lo ≤ x ∧ x ≤ hi) ∧ DSt W w' d L := by
  have H := hid h
  clear h
  go_enter Try.func64, Try.ntmps64
  go_wp2_with (go_at_call 65; (with_reducible refine (next_dst W d L (hi - lo + 1) (by omega) (by omega) _ H.out).mono ?_); rintro e w1 ⟨⟨x, rfl, x0, x1⟩, hs⟩; have HS := hid hs; clear hs)
  go_ret
  exact ⟨⟨lo + x, rfl, by omega, by omega⟩, HS.out⟩
theorem new_dst (W : World) (a : Option Addr) (len cap : Nat) (l : List Int) (w : World) (L : List (Nat × List Value × TypeId)) (hs : Sl .i64 w a len cap l) (h : Lv W w L) :
    Calls Try.prog 63 #[.slice a len cap] w fun e w' => e = .returned (.pointer (some ⟨w.heap.size, 0, none⟩)) ∧ DSt W w' w.heap.size L :=
  (new_any a len cap l w hs).mono fun e w' ⟨h1, h2, h3⟩ => ⟨h1, ⟨_, h2⟩, h.kept h3, h.size, fun x hx => by
    have : ∀ {M : List (Nat × List Value × TypeId)}, Live w M → ∀ y ∈ M, y.1 < w.heap.size := by
      intro M
      induction M with
      | nil => intro _ y hy; cases hy
      | cons z M ih =>
        intro hM y hy
        rcases List.mem_cons.1 hy with rfl | hy
        · exact (Array.getElem?_eq_some_iff.1 hM.1).1
        · exact ih hM.2 y hy
    exact Nat.ne_of_lt (this h.live x hx)⟩
end Go.Proofs.Ythmkkanjjlechaa
