/- A region that draws its order, by facts, with guards whose values are known and a state of the world that depends on what has come up. No statement is proved here. -/
import Derived.Test.YtkneaefmjdlegaaZFactsG
namespace Go.Proofs.Ytkneaefmjdlegaa
open Go.ChangeShapes Go.WideShapes Go.ChangeAt Go.RowKit
set_option linter.unusedVariables false
set_option linter.unusedSimpArgs false
/-- operation j is i or waits for it -/
def reachB (ops : List Oper) : Nat → Nat → Nat → Bool
  | 0, j, i => j == i
  | f + 1, j, i => j == i || match ops[j]? with
    | none => false
    | some o => o.after.any fun e => Region.binds .any e && reachB ops f e.on i
/-- what is up is up with all that it waits for -/
def Closed (ops : List Oper) (L : Nat → Bool) : Prop := ∀ j o, ops[j]? = some o → L j = true → ∀ e ∈ o.after, Region.binds .any e = true → L e.on = true
theorem Closed.up {ops : List Oper} {L : Nat → Bool} (h : Closed ops L) : ∀ (f j i : Nat), reachB ops f j i = true → L j = true → L i = true := by
  intro f
  induction f with
  | zero => intro j i hr hl; simp [reachB] at hr; subst hr; exact hl
  | succ f ih =>
    intro j i hr hl
    simp only [reachB, Bool.or_eq_true, beq_iff_eq] at hr
    rcases hr with hr | hr
    · subst hr; exact hl
    · cases ho : ops[j]? with
      | none => simp [ho] at hr
      | some o =>
        simp only [ho] at hr
        obtain ⟨e, he, hb⟩ := Array.any_eq_true'.1 hr
        simp only [Bool.and_eq_true] at hb
        exact ih e.on i hb.2 (h j o ho hl e he hb.1)
structure PInv (ops : List Oper) (a0 : Act) (I : (Nat → Bool) → World → Prop) (F : Nat → Value → World → Prop) (listed : Array Bool) (a : Act) (w : World) : Prop where
  size : a.tmps.size = a0.tmps.size
  defers : a.defers = a0.defers
  far : ∀ t, farSlot ops t = true → a.tmps[t]? = a0.tmps[t]?
  inv : I (fun j => listed.getD j false) w
  closed : Closed ops (fun j => listed.getD j false)
  facts : ∀ j o, ops[j]? = some o → listed.getD j false = true → F j (slotOf a o) w
theorem getD_set_fun {l : Array Bool} {i : Nat} (h : i < l.size) : (fun j => (l.setIfInBounds i true).getD j false) = fun j => if j = i then true else l.getD j false := by
  funext j
  by_cases hj : j = i
  · subst hj; rw [if_pos rfl, getD_set_same h]
  · rw [if_neg hj, getD_set_other (Ne.symm hj)]
end Go.Proofs.Ytkneaefmjdlegaa
