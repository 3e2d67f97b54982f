/- What the dice give: no statement is proved here. -/
import Derived.Test.YtlelnhapcfjhfaaBase
namespace Go.Proofs.Ytlelnhapcfjhfaa
open Go.ChangeShapes Go.WideShapes Go.ChangeAt Go.RowKit
set_option linter.unusedVariables false

/-- block d is a die with numbers -/
def DiceAt (w : World) (d : Nat) : Prop := ∃ a len cap l, w.heap[d]? = some (.cells #[.slice a len cap] 57 (0, 0)) ∧ Sl .u8 w a len cap l ∧ (len ≠ 0 → ∀ ad, a = some ad → ad.block < d)

theorem DiceAt.kept {w w' : World} {d : Nat} (h : DiceAt w d) (hb : Below w.heap.size w w') : DiceAt w' d := by
  obtain ⟨a, len, cap, l, h1, h2, h3⟩ := h
  exact ⟨a, len, cap, l, (hb.block d (Array.getElem?_eq_some_iff.1 h1).1).trans h1, h2.below hb, h3⟩

theorem sl_same {k : IntKind} {w w' : World} {d : Nat} {a : Option Addr} {len cap : Nat} {l : List Int} (h : Sl k w a len cap l) (hs : w.heap.size ≤ w'.heap.size) (hc : ∀ k, k < w.heap.size → k ≠ d → w'.heap[k]? = w.heap[k]?) (hd : len ≠ 0 → ∀ ad, a = some ad → ad.block ≠ d) : Sl k w' a len cap l := by
  obtain ⟨h1, h2, h3, h4, h5, h6⟩ := h
  refine ⟨h1, h2, h3, h4, h5, ?_⟩
  rcases h6 with h6 | ⟨b, off, rfl, hlt, hcell⟩
  · exact .inl h6
  · refine .inr ⟨b, off, rfl, by omega, fun i hi => ?_⟩
    rw [World.cell?_of_block (w := w) (hc b hlt (hd (by omega) _ rfl))]
    exact hcell i hi

/-- w' is w but for block d and new blocks -/
structure But (d : Nat) (w w' : World) : Prop where
  os : w'.os = w.os
  tape : w'.tape = w.tape
  output : w'.output = w.output
  size : w.heap.size ≤ w'.heap.size
  block : ∀ k, k < w.heap.size → k ≠ d → w'.heap[k]? = w.heap[k]?
theorem But.refl (d : Nat) (w : World) : But d w w := ⟨rfl, rfl, rfl, Nat.le_refl _, fun _ _ _ => rfl⟩
theorem But.trans {d : Nat} {a b c : World} (h : But d a b) (k : But d b c) : But d a c :=
  ⟨k.os.trans h.os, k.tape.trans h.tape, k.output.trans h.output, Nat.le_trans h.size k.size, fun i hi hd => (k.block i (Nat.lt_of_lt_of_le hi h.size) hd).trans (h.block i hi hd)⟩
theorem But.of_below {d : Nat} {w w' : World} (h : Below w.heap.size w w') : But d w w' := ⟨h.os, h.tape, h.output, h.size, fun k hk _ => h.block k hk⟩
theorem But.below {d B : Nat} {w w' : World} (h : But d w w') (hB : B ≤ d) (hB2 : B ≤ w.heap.size) : Below B w w' := ⟨h.os, h.tape, h.output, h.size, fun k hk => h.block k (by omega) (by omega)⟩
theorem But.cell {d b o : Nat} {w w' : World} (h : But d w w') (hb : b < w.heap.size) (hd : b ≠ d) : w'.cell? ⟨b, o, none⟩ = w.cell? ⟨b, o, none⟩ := World.cell?_of_block (w := w) (h.block b hb hd)
theorem But.frozen {d b o : Nat} {w w' : World} (h : But d w w') (hb : b < w.heap.size) (hd : b ≠ d) : w'.frozen? ⟨b, o, none⟩ = w.frozen? ⟨b, o, none⟩ := World.frozen?_of_block (w := w) (h.block b hb hd)

theorem dice_set {w : World} {d : Nat} {x : Value} (hd : w.heap[d]? = some (.cells #[x] 57 (0, 0))) {ad : Addr} {len cap : Nat} {l : List Int} (hs : Sl .u8 w (some ad) len cap l) (hne : len ≠ 0 → ad.block < d) :
    DiceAt (w.setCell ⟨d, 0, none⟩ (.slice (some ad) len cap)) d ∧ But d w (w.setCell ⟨d, 0, none⟩ (.slice (some ad) len cap)) := by
  have hb : But d w (w.setCell ⟨d, 0, none⟩ (.slice (some ad) len cap)) := ⟨rfl, rfl, rfl, by simp [World.setCell], fun k _ hk => Below.heap_setCell _ _ _ _ hk⟩
  refine ⟨⟨some ad, len, cap, l, ?_, sl_same hs hb.size hb.block (fun k a h => by cases h; exact Nat.ne_of_lt (hne k)), fun k a h => by cases h; exact hne k⟩, hb⟩
  have := heap_setCell_same w d 0 #[x] _ (.slice (some ad) len cap) hd
  simpa using this

set_option maxHeartbeats 1000000 in
theorem next_any (d : Nat) (n : Int) (h1 : 1 ≤ n) (h2 : n ≤ 9223372036854775807) (w : World) (h : DiceAt w d) :
    Calls Try.prog 12 #[.pointer (some ⟨d, 0, none⟩), .int .i64 n] w fun e w' => (∃ r : Int, e = .returned (.int .i64 r) ∧ 0 ≤ r ∧ r < n) ∧ DiceAt w' d ∧ But d w w' := by
  obtain ⟨a, len, cap, l, hd, hs, hne⟩ := h
  have hc0 : w.cell? ⟨d, 0, none⟩ = some (.slice a len cap) := by rw [cell_of_row _ d 0 _ _ (0, 0) hd]; rfl
  have hm : len ≤ 9223372036854775807 ∧ cap ≤ 9223372036854775807 := by have k1 := hs.2.1; have k2 := hs.2.2.1; unfold maxLen at k2; exact ⟨by omega, by omega⟩
  obtain ⟨hm1, hm2⟩ := hm
  have HD := hid (show DiceAt w d from ⟨a, len, cap, l, hd, hs, hne⟩)
  by_cases h0 : len = 0
  · subst h0
    clear hd hs hne
    go_enter Try.func12, Try.ntmps12
    go_wp2
    go_ret
    exact ⟨⟨0, rfl, by omega, by omega⟩, HD.out, But.refl _ _⟩
  · by_cases hn : n ≤ 1
    · have hl0 : ((len : Int) == 0) = false := by simp; omega
      clear hd hs hne
      go_enter Try.func12, Try.ntmps12
      go_wp2
      go_ret
      exact ⟨⟨0, rfl, by omega, by omega⟩, HD.out, But.refl _ _⟩
    · have HS := hid hs
      have HH := hid hd
      have HN := hid hne
      rcases hs.2.2.2.2.2 with h | ⟨b, off, rfl, hlt, hcell⟩
      · omega
      obtain ⟨x, hcx, hx⟩ := row_at hcell 0 (by omega)
      have hbk : 0 ≤ x ∧ x ≤ 255 := by rw [← hx.out]; exact byte_getD (byte_of_wf hs.2.2.2.1) _
      obtain ⟨hx0, hx1⟩ := hbk
      have hcx' : w.cell? ⟨b, off, none⟩ = some (.int .u8 x) := hcx
      have hf : w.frozen? ⟨d, 0, none⟩ = false := frozen_of_row w d 0 _ _ hd
      have hl0 : ((len : Int) == 0) = false := by simp; omega
      have hlp : (0 : Int) < (len : Int) := by omega
      clear hd hs hne hcell hcx hx
      go_enter Try.func12, Try.ntmps12
      go_wp2
      have hr := Int.emod_nonneg x (show n ≠ 0 by omega)
      have hr2 := Int.emod_lt_of_pos x (show 0 < n by omega)
      · have hcap : cap = 1 := by assumption
        subst hcap
        have hl1 := HS.out.2.1
        go_ret
        have h1 : len - 1 = 0 := by omega
        rw [h1]
        have hsub := sl_sub HS.out 0 0 0 (by omega) (by omega) (by unfold maxLen; omega)
        have := dice_set HH.out hsub (fun k => absurd rfl k)
        exact ⟨⟨x % n, rfl, hr, hr2⟩, this.1, this.2⟩
      · have hl1 := HS.out.2.1
        go_ret
        have hsub := sl_sub HS.out 1 (len - 1) (cap - 1) (by omega) (by omega) (by unfold maxLen; omega)
        have := dice_set HH.out hsub (fun _ => HN.out h0 ⟨b, off, none⟩ rfl)
        exact ⟨⟨x % n, rfl, Int.emod_nonneg x (by omega), Int.emod_lt_of_pos x (by omega)⟩, this.1, this.2⟩

theorem dice_new {w : World} {a : Option Addr} {len cap : Nat} {l : List Int} (hs : Sl .u8 w a len cap l) :
    DiceAt (w.alloc (.cells #[.slice a len cap] 57)) w.heap.size ∧ Below w.heap.size w (w.alloc (.cells #[.slice a len cap] 57)) := by
  have hb : Below w.heap.size w (w.alloc (.cells #[.slice a len cap] 57)) := (Below.refl _ _).alloc (Nat.le_refl _) _
  refine ⟨⟨a, len, cap, l, heap_alloc_new w _, hs.below hb, fun h0 ad he => ?_⟩, hb⟩
  rcases hs.2.2.2.2.2 with h | ⟨b, off, rfl, hlt, _⟩
  · omega
  · cases he; exact hlt

theorem sl_head {k : IntKind} {w : World} {a : Option Addr} {len cap : Nat} {l : List Int} (hs : Sl k w a len cap l) (n : Nat) (hn : n ≤ len) : Sl k w a n cap (l.take n) := by
  obtain ⟨h1, h2, h3, h4, h5, h6⟩ := hs
  refine ⟨by simp; omega, by omega, h3, fun x hx => h4 x (List.mem_of_mem_take hx), h5, ?_⟩
  by_cases h0 : n = 0
  · exact .inl h0
  · rcases h6 with h | ⟨b, off, rfl, hlt, hc⟩
    · omega
    · refine .inr ⟨b, off, rfl, hlt, fun i hi => ?_⟩
      rw [hc i (by omega)]
      simp [List.getD_eq_getElem?_getD, hi]

set_option maxHeartbeats 1000000 in
theorem new_any (a : Option Addr) (len cap : Nat) (l : List Int) (w : World) (hs : Sl .u8 w a len cap l) :
    Calls Try.prog 9 #[.slice a len cap] w fun e w' => ∃ d, e = .returned (.pointer (some ⟨d, 0, none⟩)) ∧ w.heap.size ≤ d ∧ DiceAt w' d ∧ Below w.heap.size w w' := by
  have HS := hid hs
  have hm : len ≤ 9223372036854775807 ∧ cap ≤ 9223372036854775807 ∧ len ≤ cap := by have k1 := hs.2.1; have k2 := hs.2.2.1; unfold maxLen at k2; exact ⟨by omega, by omega, k1⟩
  obtain ⟨hm1, hm2, hm3⟩ := hm
  clear hs
  by_cases h : len ≤ 299
  · go_enter Try.func9, Try.ntmps9
    go_wp2
    go_ret
    have := dice_new HS.out
    exact ⟨_, rfl, Nat.le_refl _, this.1, this.2⟩
  · go_enter Try.func9, Try.ntmps9
    go_wp2
    all_goals go_ret
    all_goals first
      | (have := dice_new (sl_head HS.out 300 (by omega)); exact ⟨_, rfl, Nat.le_refl _, this.1, this.2⟩)
      | (have := dice_new HS.out; exact ⟨_, rfl, Nat.le_refl _, this.1, this.2⟩)
end Go.Proofs.Ytlelnhapcfjhfaa
