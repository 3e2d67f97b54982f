/- From contracts of Go's library to functions told by names. No statement is proved here. -/
import Derived.Test.YtjhebkiahpocfaaAmV
namespace Go.Proofs.Ytjhebkiahpocfaa
open Go.ChangeShapes Go.WideShapes Go.ChangeAt Go.RowKit
set_option linter.unusedVariables false
set_option linter.unusedSimpArgs false

theorem args_lit {p : Nat → Prop} {ρ : Rh} {w : World} : ∀ {vs args : List Value}, All2 (RepE p ρ w) (vs.map fun v => E1.c (.d (.lit v))) args → args = vs
  | [], [], _ => rfl
  | v :: vs, a :: args, h => by
    have h1 : RepE p ρ w (.c (.d (.lit v))) a := h.1
    have h2 : a = v := rep_lit (show RepPV p ρ w (LV v) a from h1)
    rw [h2, args_lit h.2]
  | [], _ :: _, h => by cases h
  | _ :: _, [], h => by cases h
/-- a function of plain values that gives a plain value and touches no older block -/
theorem Fun.ofCalls {f : FuncId} {vs : List Value} {r : Value} (hr : r.oneCell' = true) (h : ∀ w : World, (∃ p, GlOK p w) → Calls Try.prog f vs.toArray w fun e w' => e = .returned r ∧ Below w.heap.size w w') : Fun f (vs.map fun v => E1.c (.d (.lit v))) [] 0 (LV r) [] 0 := by
  intro cx args hn hh ha
  rw [args_lit ha]
  refine (h cx.W ⟨cx.p, cx.gl⟩).mono ?_
  rintro e w' ⟨rfl, hb⟩
  refine ⟨r, cx.ρ0, rfl, fun _ _ h => h, fun b _ => ?_, ⟨?_, ?_, ?_, hh.zm, fun k hk => Nat.lt_of_lt_of_le (hh.zl k hk) hb.size⟩, ⟨hb.os, hb.tape, hb.output, hb.size, fun k hk _ => hb.block k hk⟩, lit_rep hr⟩
  · cases e : cx.ρ0 b with
    | none => rfl
    | some m => have := cx.hn0 b m e; omega
  · intro b T cs hb; cases hb
  · intro b b' m m' hb; exact absurd rfl hb
  · intro b m hb; exact absurd rfl hb
end Go.Proofs.Ytjhebkiahpocfaa
