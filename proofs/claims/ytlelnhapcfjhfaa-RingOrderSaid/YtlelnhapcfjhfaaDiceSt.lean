/- A call that throws dice: no statement is proved here. -/
import Derived.Test.YtlelnhapcfjhfaaDice
import Derived.Handy
namespace Go.Proofs.Ytlelnhapcfjhfaa
open Go.ChangeShapes Go.WideShapes Go.ChangeAt Go.RowKit
set_option linter.unusedVariables false
set_option linter.unusedSimpArgs false

theorem DiceAt.lt {w : World} {d : Nat} (h : DiceAt w d) : d < w.heap.size := by
  obtain ⟨a, len, cap, l, h1, h2, h3⟩ := h
  exact (Array.getElem?_eq_some_iff.1 h1).1
theorem DiceAt.far {w w' : World} {d R : Nat} (h : DiceAt w d) (hs : w.heap.size ≤ w'.heap.size) (ho : ∀ k, k < w.heap.size → k ≠ R → w'.heap[k]? = w.heap[k]?) (hd : d < R) : DiceAt w' d := by
  obtain ⟨a, len, cap, l, h1, h2, h3⟩ := h
  exact ⟨a, len, cap, l, (ho d (Array.getElem?_eq_some_iff.1 h1).1 (by omega)).trans h1, sl_same (d := R) h2 hs ho (fun k ad e => by have := h3 k ad e; omega), h3⟩
/-- the world of a call that began in W with dice in block d -/
structure St (W w : World) (d : Nat) : Prop where
  dice : DiceAt w d
  but : But d W w
theorem St.start {w : World} {d : Nat} (h : DiceAt w d) : St w w d := ⟨h, But.refl _ _⟩
theorem St.kept {W w w' : World} {d : Nat} (h : St W w d) (hb : Below w.heap.size w w') : St W w' d := ⟨h.dice.kept hb, h.but.trans (But.of_below hb)⟩
theorem St.next {W w w' : World} {d : Nat} (h : St W w d) (hk : DiceAt w' d) (hb : But d w w') : St W w' d := ⟨hk, h.but.trans hb⟩
theorem next_st (W : World) (d : Nat) (n : Int) (h1 : 1 ≤ n) (h2 : n ≤ 9223372036854775807) (w : World) (h : St W w d) :
    Calls Try.prog 12 #[.pointer (some ⟨d, 0, none⟩), .int .i64 n] w fun e w' => (∃ r : Int, e = .returned (.int .i64 r) ∧ 0 ≤ r ∧ r < n) ∧ St W w' d ∧ (∀ b o, b < w.heap.size → b ≠ d → w'.cell? ⟨b, o, none⟩ = w.cell? ⟨b, o, none⟩) ∧ (∀ b o, b < w.heap.size → b ≠ d → w'.frozen? ⟨b, o, none⟩ = w.frozen? ⟨b, o, none⟩) ∧ w.heap.size ≤ w'.heap.size ∧ But d w w' :=
  (next_any d n h1 h2 w h.dice).mono fun e w' ⟨h3, h4, h5⟩ => ⟨h3, h.next h4 h5, fun b o hb hd => h5.cell hb hd, fun b o hb hd => h5.frozen hb hd, h5.size, h5⟩
end Go.Proofs.Ytlelnhapcfjhfaa
