/- A region that draws its order, by facts, with guards whose values are known and a state of the world that depends on what has come up. No statement is proved here. -/
import Derived.Test.YtkjmlililpgamaaZFactsG
namespace Go.Proofs.Ytkjmlililpgamaa
open Go.ChangeShapes Go.WideShapes Go.ChangeAt Go.RowKit
set_option linter.unusedVariables false
set_option linter.unusedSimpArgs false
def yS (ops : List Oper) (L : Nat → Bool) : Prop := ∀ j o, ops[j]? = some o → L j = true → ∀ e ∈ o.after, Region.binds .any e = true → L e.on = true
structure PInv (ops : List Oper) (a0 : Act) (I : (Nat → Bool) → World → Prop) (F : Nat → Value → World → Prop) (listed : Array Bool) (a : Act) (w : World) : Prop where
  size : a.tmps.size = a0.tmps.size
  defers : a.defers = a0.defers
  far : ∀ t, mK ops t = true → a.tmps[t]? = a0.tmps[t]?
  inv : I (fun j => listed.getD j false) w
  closed : yS ops (fun j => listed.getD j false)
  facts : ∀ j o, ops[j]? = some o → listed.getD j false = true → F j (vG a o) w
theorem aX {l : Array Bool} {i : Nat} (h : i < l.size) : (fun j => (l.setIfInBounds i true).getD j false) = fun j => if j = i then true else l.getD j false := by
  funext j
  by_cases hj : j = i
  · subst hj; rw [if_pos rfl, d1 h]
  · rw [if_neg hj, dD (Ne.symm hj)]
end Go.Proofs.Ytkjmlililpgamaa
