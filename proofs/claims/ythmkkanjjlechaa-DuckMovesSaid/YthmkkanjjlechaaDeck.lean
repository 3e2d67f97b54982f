/- What a deck gives: no statement is proved here. -/
import Derived.Test.YthmkkanjjlechaaMod
namespace Go.Proofs.Ythmkkanjjlechaa
open Go.ChangeShapes Go.WideShapes Go.ChangeAt Go.RowKit
set_option linter.unusedVariables false

/-- block d is a deck of which so many numbers are left -/
def DeckAt (w : World) (d r : Nat) : Prop := ∃ (a : Option Addr) (len cap i : Nat) (l : List Int), w.heap[d]? = some (.cells #[.slice a len cap, .int .i64 i] 113 (0, 0)) ∧ Sl .i64 w a len cap l ∧ (len ≠ 0 → ∀ ad, a = some ad → ad.block < d) ∧ i + r = len

theorem DeckAt.kept {w w' : World} {d r : Nat} (h : DeckAt w d r) (hb : Below w.heap.size w w') : DeckAt w' d r := by
  obtain ⟨a, len, cap, i, l, h1, h2, h3, h4⟩ := h
  exact ⟨a, len, cap, i, l, (hb.block d (Array.getElem?_eq_some_iff.1 h1).1).trans h1, h2.below hb, h3, h4⟩
theorem DeckAt.lt {w : World} {d r : Nat} (h : DeckAt w d r) : d < w.heap.size := by
  obtain ⟨a, len, cap, i, l, h1, h2, h3, h4⟩ := h
  exact (Array.getElem?_eq_some_iff.1 h1).1
/-- w' is w but for block d and new blocks -/
structure But (d : Nat) (w w' : World) : Prop where
  os : w'.os = w.os
  tape : w'.tape = w.tape
  output : w'.output = w.output
  size : w.heap.size ≤ w'.heap.size
  block : ∀ k, k < w.heap.size → k ≠ d → w'.heap[k]? = w.heap[k]?
theorem But.refl (d : Nat) (w : World) : But d w w := ⟨rfl, rfl, rfl, Nat.le_refl _, fun _ _ _ => rfl⟩
theorem But.trans {d : Nat} {a b c : World} (h : But d a b) (k : But d b c) : But d a c :=
  ⟨k.os.trans h.os, k.tape.trans h.tape, k.output.trans h.output, Nat.le_trans h.size k.size, fun i hi hd => (k.block i (Nat.lt_of_lt_of_le hi h.size) hd).trans (h.block i hi hd)⟩
theorem But.of_below {d : Nat} {w w' : World} (h : Below w.heap.size w w') : But d w w' := ⟨h.os, h.tape, h.output, h.size, fun k hk _ => h.block k hk⟩
theorem But.below {d B : Nat} {w w' : World} (h : But d w w') (hB : B ≤ d) (hB2 : B ≤ w.heap.size) : Below B w w' := ⟨h.os, h.tape, h.output, h.size, fun k hk => h.block k (by omega) (by omega)⟩
theorem sl_same {k : IntKind} {w w' : World} {d : Nat} {a : Option Addr} {len cap : Nat} {l : List Int} (h : Sl k w a len cap l) (hs : w.heap.size ≤ w'.heap.size) (hc : ∀ k, k < w.heap.size → k ≠ d → w'.heap[k]? = w.heap[k]?) (hd : len ≠ 0 → ∀ ad, a = some ad → ad.block ≠ d) : Sl k w' a len cap l := by
  obtain ⟨h1, h2, h3, h4, h5, h6⟩ := h
  refine ⟨h1, h2, h3, h4, h5, ?_⟩
  rcases h6 with h6 | ⟨b, off, rfl, hlt, hcell⟩
  · exact .inl h6
  · refine .inr ⟨b, off, rfl, by omega, fun i hi => ?_⟩
    rw [World.cell?_of_block (w := w) (hc b hlt (hd (by omega) _ rfl))]
    exact hcell i hi

theorem below_drewN (w : World) (n : Nat) : Below w.heap.size w (w.drewN n) := ⟨rfl, rfl, rfl, Nat.le_refl _, fun _ _ => rfl⟩
theorem deck_set {w : World} {d len cap i r : Nat} {a : Option Addr} {l : List Int} (hd : w.heap[d]? = some (.cells #[.slice a len cap, .int .i64 i] 113 (0, 0))) (hs : Sl .i64 w a len cap l) (hne : len ≠ 0 → ∀ ad, a = some ad → ad.block < d) (hi : i + 1 + r = len) :
    DeckAt (w.setCell ⟨d, 1, none⟩ (.int .i64 ((i : Int) + 1))) d r ∧ But d w (w.setCell ⟨d, 1, none⟩ (.int .i64 ((i : Int) + 1))) := by
  have hb : But d w (w.setCell ⟨d, 1, none⟩ (.int .i64 ((i : Int) + 1))) := ⟨rfl, rfl, rfl, by simp [World.setCell], fun k _ hk => Below.heap_setCell _ _ _ _ hk⟩
  refine ⟨⟨a, len, cap, i + 1, l, ?_, sl_same hs hb.size hb.block (fun k ad e => Nat.ne_of_lt (hne k ad e)), hne, by omega⟩, hb⟩
  have := heap_setCell_same w d 1 #[.slice a len cap, .int .i64 i] _ (.int .i64 ((i : Int) + 1)) hd
  simpa using this

theorem deck_open {w : World} {d r : Nat} (h : DeckAt w d r) (hr : 0 < r) : ∃ (b off len cap i : Nat) (x : Int) (w2 : World), w.cell? ⟨d, 0, none⟩ = some (.slice (some ⟨b, off, none⟩) len cap) ∧ w.cell? ⟨d, 1, none⟩ = some (.int .i64 i) ∧ w.frozen? ⟨d, 1, none⟩ = false ∧
    w.setCell ⟨d, 1, none⟩ (.int .i64 ((i : Int) + 1)) = w2 ∧ w2.cell? ⟨b, off + i, none⟩ = some (.int .i64 x) ∧ w2.cell? ⟨d, 0, none⟩ = some (.slice (some ⟨b, off, none⟩) len cap) ∧ w2.cell? ⟨d, 1, none⟩ = some (.int .i64 ((i : Int) + 1)) ∧ (0 : Int) ≤ (i : Int) ∧ (i : Int) < (len : Int) ∧ len ≤ 9223372036854775807 ∧ Hid (DeckAt w2 d (r - 1)) ∧ Hid (But d w w2) := by
  obtain ⟨a, len, cap, i, l, hd, hs, hne, hi⟩ := h
  have hm : len ≤ 9223372036854775807 := by have k1 := hs.2.1; have k2 := hs.2.2.1; unfold maxLen at k2; omega
  rcases hs.2.2.2.2.2 with h | ⟨b, off, rfl, hblt, hcell⟩
  · omega
  have hbd : b ≠ d := Nat.ne_of_lt (hne (by omega) _ rfl)
  obtain ⟨x, hcx, hx⟩ := row_at hcell i (by omega)
  obtain ⟨S1, S2⟩ := deck_set (r := r - 1) hd hs hne (by omega)
  have hset := heap_setCell_same w d 1 #[.slice (some ⟨b, off, none⟩) len cap, .int .i64 i] _ (.int .i64 ((i : Int) + 1)) hd
  refine ⟨b, off, len, cap, i, x, _, by rw [cell_of_row _ d 0 _ _ (0, 0) hd]; rfl, by rw [cell_of_row _ d 1 _ _ (0, 0) hd]; rfl, frozen_of_row w d 1 _ _ hd, rfl, ?_, ?_, ?_, by omega, by omega, hm, S1, S2⟩
  · rw [World.cell?_of_block (w := w) (S2.block b hblt hbd)]; exact hcx
  · rw [cell_of_row _ d 0 _ _ (0, 0) hset]; rfl
  · rw [cell_of_row _ d 1 _ _ (0, 0) hset]; rfl
theorem left_any (d r : Nat) (w : World) (h : DeckAt w d r) :
    Calls Try.prog 81 #[.pointer (some ⟨d, 0, none⟩)] w fun e w' => e = .returned (.bool (decide (0 < r))) ∧ DeckAt w' d r ∧ Below w.heap.size w w' := by
  have HD := hid h
  obtain ⟨a, len, cap, i, l, hd, hs, hne, hi⟩ := h
  have hc0 : w.cell? ⟨d, 0, none⟩ = some (.slice a len cap) := by rw [cell_of_row _ d 0 _ _ (0, 0) hd]; rfl
  have hc1 : w.cell? ⟨d, 1, none⟩ = some (.int .i64 i) := by rw [cell_of_row _ d 1 _ _ (0, 0) hd]; rfl
  have hm : len ≤ 9223372036854775807 := by have k1 := hs.2.1; have k2 := hs.2.2.1; unfold maxLen at k2; omega
  clear hd hs hne
  go_enter Try.func81, Try.ntmps81
  go_wp2
  go_quiet (fail)
  go_wp2
  go_ret
  exact ⟨ret_b (by rw [Bool.eq_iff_iff]; simp; omega), HD.out.kept (below_drewN _ _), below_drewN _ _⟩

set_option maxHeartbeats 1000000 in
theorem next_any (d r : Nat) (n : Int) (h1 : 1 ≤ n) (h2 : n ≤ 1099511627776) (w : World) (h : DeckAt w d r) :
    Calls Try.prog 65 #[.pointer (some ⟨d, 0, none⟩), .int .i64 n] w fun e w' => (∃ x : Int, e = .returned (.int .i64 x) ∧ 0 ≤ x ∧ x < n) ∧ DeckAt w' d (r - 1) ∧ But d w w' := by
  have HD := hid h
  clear h
  by_cases h0 : r = 0
  · subst h0
    go_enter Try.func65, Try.ntmps65
    go_wp2_with (go_at_call 81; (with_reducible refine (left_any d 0 w HD.out).mono ?_); rintro e w1 ⟨rfl, hdk, hbt⟩; have HK := hid hdk; have HB := hid hbt; clear hdk hbt)
    go_ret
    exact ⟨⟨0, rfl, by omega, by omega⟩, HK.out, But.of_below HB.out⟩
  · have hr0 : 0 < r := by omega
    go_enter Try.func65, Try.ntmps65
    go_wp2_with (go_at_call 81; (with_reducible refine (left_any d r w HD.out).mono ?_); rintro e w1 ⟨rfl, hdk, hbt⟩; obtain ⟨b, off, len, cap, i, x, w2, f1, f2, f3, f4, f5, f6, f7, f8, f9, f10, T1, T2⟩ := deck_open hdk hr0; have HB := hid hbt; clear hdk hbt)
    have km := hid (fun w => mod_any x n (by omega) h2 w)
    have hr := Int.emod_nonneg x (show n ≠ 0 by omega)
    have hr2 := Int.emod_lt_of_pos x (show 0 < n by omega)
    go_quiet ((go_at_call 33; exact Calls.quiet_of_same ((km.out _).mono fun e w' h => ⟨h.1, h.2.symm⟩)))
    go_wp2
    go_ret
    exact ⟨⟨x % n, rfl, hr, hr2⟩, T1.out.kept (below_drewN _ _), (But.of_below HB.out).trans (T2.out.trans (But.of_below (below_drewN _ _)))⟩
theorem deck_new {w : World} {a : Option Addr} {len cap : Nat} {l : List Int} (hs : Sl .i64 w a len cap l) :
    DeckAt (w.alloc (.cells #[.slice a len cap, .int .i64 0] 113)) w.heap.size len ∧ Below w.heap.size w (w.alloc (.cells #[.slice a len cap, .int .i64 0] 113)) := by
  have hb : Below w.heap.size w (w.alloc (.cells #[.slice a len cap, .int .i64 0] 113)) := (Below.refl _ _).alloc (Nat.le_refl _) _
  refine ⟨⟨a, len, cap, 0, l, heap_alloc_new _ _, hs.below hb, ?_, by omega⟩, hb⟩
  rintro h0 ad rfl
  rcases hs.2.2.2.2.2 with h | ⟨b, off, e, hlt, _⟩
  · exact absurd h h0
  · cases e; exact hlt
theorem new_any (a : Option Addr) (len cap : Nat) (l : List Int) (w : World) (hs : Sl .i64 w a len cap l) :
    Calls Try.prog 63 #[.slice a len cap] w fun e w' => e = .returned (.pointer (some ⟨w.heap.size, 0, none⟩)) ∧ DeckAt w' w.heap.size len ∧ Below w.heap.size w w' := by
  have HS := hid hs
  clear hs
  go_enter Try.func63, Try.ntmps63
  go_wp2
  go_ret
  exact ⟨rfl, (deck_new HS.out).1, (deck_new HS.out).2⟩
/-- block d is a deck -/
def Deck (w : World) (d : Nat) : Prop := ∃ r, DeckAt w d r
theorem Deck.kept {w w' : World} {d : Nat} (h : Deck w d) (hb : Below w.heap.size w w') : Deck w' d := by
  obtain ⟨r, h⟩ := h; exact ⟨r, h.kept hb⟩
theorem Deck.lt {w : World} {d : Nat} (h : Deck w d) : d < w.heap.size := by
  obtain ⟨r, h⟩ := h; exact h.lt
theorem next_some (d : Nat) (n : Int) (h1 : 1 ≤ n) (h2 : n ≤ 1099511627776) (w : World) (h : Deck w d) :
    Calls Try.prog 65 #[.pointer (some ⟨d, 0, none⟩), .int .i64 n] w fun e w' => (∃ x : Int, e = .returned (.int .i64 x) ∧ 0 ≤ x ∧ x < n) ∧ Deck w' d ∧ But d w w' := by
  obtain ⟨r, h⟩ := h
  exact (next_any d r n h1 h2 w h).mono fun e w' ⟨k1, k2, k3⟩ => ⟨k1, ⟨_, k2⟩, k3⟩
/-- what a step from one world to the next keeps, while a deck is drawn from -/
theorem step_below {B d : Nat} {W w w1 : World} (h : Below B W w) (k : But d w w1) (hd : B ≤ d) (hB : B ≤ w.heap.size) : Below B W w1 := h.trans (k.below hd hB)
/-- block b holds these cells and is not frozen -/
def Box (w : World) (b : Nat) (vs : Array Value) (T : TypeId) : Prop := w.heap[b]? = some (.cells vs T (0, 0))
theorem Box.kept {w w' : World} {b : Nat} {vs : Array Value} {T : TypeId} (h : Box w b vs T) (hb : Below w.heap.size w w') : Box w' b vs T := (hb.block b (Array.getElem?_eq_some_iff.1 h).1).trans h
theorem Box.but {w w' : World} {b d : Nat} {vs : Array Value} {T : TypeId} (h : Box w b vs T) (hb : But d w w') (hd : b ≠ d) : Box w' b vs T := (hb.block b (Array.getElem?_eq_some_iff.1 h).1 hd).trans h
theorem Box.lt {w : World} {b : Nat} {vs : Array Value} {T : TypeId} (h : Box w b vs T) : b < w.heap.size := (Array.getElem?_eq_some_iff.1 h).1
theorem Box.cell {w : World} {b : Nat} {vs : Array Value} {T : TypeId} (h : Box w b vs T) (i : Nat) {v : Value} (hv : vs[i]? = some v) : w.cell? ⟨b, i, none⟩ = some v := (cell_of_row w b i vs T (0, 0) h).trans hv
theorem Box.frozen {w : World} {b : Nat} {vs : Array Value} {T : TypeId} (h : Box w b vs T) (i : Nat) : w.frozen? ⟨b, i, none⟩ = false := frozen_of_row w b i vs T h
theorem Box.set {w : World} {b : Nat} {vs : Array Value} {T : TypeId} (h : Box w b vs T) (i : Nat) (v : Value) : Box (w.setCell ⟨b, i, none⟩ v) b (vs.setIfInBounds i v) T := by
  have := heap_setCell_same w b i vs T v h
  simpa [Box] using this
theorem Box.set_far {w : World} {b c : Nat} {vs : Array Value} {T : TypeId} (h : Box w b vs T) (i : Nat) (v : Value) (hc : b ≠ c) : Box (w.setCell ⟨c, i, none⟩ v) b vs T := (Below.heap_setCell _ _ _ _ hc).trans h
theorem Box.alloc_new (w : World) (vs : Array Value) (T : TypeId) : Box (w.alloc (.cells vs T)) w.heap.size vs T := heap_alloc_new w _
theorem Deck.set {w : World} {d c i : Nat} {v : Value} (h : Deck w d) (hc : d < c) : Deck (w.setCell ⟨c, i, none⟩ v) d := by
  obtain ⟨r, a, len, cap, j, l, h1, h2, h3, h4⟩ := h
  refine ⟨r, a, len, cap, j, l, (Below.heap_setCell _ _ _ _ (by show d ≠ c; omega)).trans h1, ?_, h3, h4⟩
  exact sl_same (d := c) h2 (by simp [World.setCell]) (fun k _ hk => Below.heap_setCell _ _ _ _ hk) (fun k ad e => by have := h3 k ad e; omega)
end Go.Proofs.Ythmkkanjjlechaa
