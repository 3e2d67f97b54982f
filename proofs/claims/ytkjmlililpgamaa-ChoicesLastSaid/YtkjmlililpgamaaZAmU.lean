/- A memory told by names: empty slices that are nil or not. No statement is proved here. -/
import Derived.Test.YtkjmlililpgamaaZAmZ
namespace Go.Proofs.Ytkjmlililpgamaa
open Go.ChangeShapes Go.WideShapes Go.ChangeAt Go.RowKit
set_option linter.unusedVariables false
set_option linter.unusedSimpArgs false
theorem t4 {cx : Cx} {n nx : Nat} {c : Code} {Q : qR} {l : List (Nat × PV)} {g : EH} (t : Nat) {a : Option Addr} {cap : Nat} (hm : cap ≤ maxLen) (ha : a = none → cap = 0) (hl : l.lookup t = some (LV (.slice a 0 cap))) (h : AW cx n c Q ⟨(t, uT [] 0) :: l, kC g, nx⟩) : AW cx n c Q ⟨l, kC g, nx⟩ := by
 intro act w hmod
 refine h act w ?_
 obtain ⟨ρ, h1, h2, h3, h4, h5, h6, h9⟩ := hmod
 refine ⟨ρ, h1, h2, fun t' => ?_, h4, h5, h6, h9⟩
 have h3' := h3 t'
 show RepPV cx.p ρ w (S ((t, PV.e (.c (.d (.sl [] 0)))) :: l) t') _
 unfold Proofs.Ytkjmlililpgamaa.S
 rw [List.lookup_cons]
 by_cases e : t' = t
 ·subst e
  rw [show (t' == t') = true by simp]
  have e2 : S l t' = LV (.slice a 0 cap) := (qJ hl).S
  rw [show S l t' = _ from e2] at h3'
  have e3 := kG h3'
  show RepPV cx.p ρ w (PV.e (.c (.d (.sl [] 0)))) _
  rw [e3]
  exact .d (.nil a cap hm ha)
 ·rw [show (t' == t) = false by simpa using e]
  exact h3'
theorem t1 {f nx0 nx1 : Nat} {y : PV} {g0 g1 : List (Nat × Option Bk)} (h1 : Fun f [.c (.d (.lit (.slice none 0 0)))] g0 nx0 y g1 nx1) (h2 : ∀ (a : Addr) (cap : Nat), cap ≤ maxLen → Fun f [.c (.d (.lit (.slice (some a) 0 cap)))] g0 nx0 y g1 nx1) : Fun f [.c (.d (.sl [] 0))] g0 nx0 y g1 nx1 := by
 intro cx args hn hh ha
 match args, ha with
 | [v], ha =>
  have hr : RepC cx.p cx.ρ0 cx.W (.d (.sl [] 0)) v := ha.1
  cases hr with
  | d h =>
   generalize hds : D.sl [] 0 = x at h
   cases h with
   | lit v h => cases hds
   | nil a cap hm ha' =>
    cases a with
    | none =>
     have := ha' rfl
     subst this
     exact h1 cx _ hn hh ⟨.d (.lit _ rfl), trivial⟩
    | some a => exact h2 a cap hm cx _ hn hh ⟨.d (.lit _ rfl), trivial⟩
   | sl ds us b off n cap hl hc hr hp hb hn2 hm =>
    cases hds
    exact h2 ⟨b, off, none⟩ cap hm cx _ hn hh ⟨.d (.lit _ rfl), trivial⟩
end Go.Proofs.Ytkjmlililpgamaa
