/- A memory told by names: small lemmas for what is computed. No statement is proved here. -/
import Derived.Test.YthafllabdfilpaaZAmJ
import Derived.LoopN
namespace Go.Proofs.Ythafllabdfilpaa
open Go.ChangeShapes Go.WideShapes Go.ChangeAt Go.RowKit
set_option linter.unusedVariables false
set_option linter.unusedSimpArgs false
theorem AW.es {cx : Cx} {n nx : Nat} {c : Code} {Q : Post} {s : ES} {l : List (Nat × PV)} {g : EH} (h1 : s.l = l) (h2 : s.g = g) (h3 : s.nx = nx) (h : AW cx n c Q ⟨l, toG g, nx⟩) : AW cx n c Q s.st := by subst h1; subst h2; subst h3; exact h
theorem Fun.y {f n0 n1 : Nat} {xs : List E1} {g0 g1 : List (Nat × Option Bk)} {y y' : PV} (h : Fun f xs g0 n0 y g1 n1) (e : y = y') : Fun f xs g0 n0 y' g1 n1 := e ▸ h
theorem tmod_rng (a : Int) {c : Int} (h : 0 < c) : -c < Int.tmod a c ∧ Int.tmod a c < c := by
  by_cases h0 : 0 ≤ a
  · rw [Int.tmod_eq_emod_of_nonneg h0]; exact ⟨by have := Int.emod_nonneg a (show c ≠ 0 by omega); omega, Int.emod_lt_of_pos a h⟩
  · have e1 : Int.tmod a c = -((-a) % c) := by
      have := Int.neg_tmod (-a) c; rw [Int.neg_neg] at this; rw [this, Int.tmod_eq_emod_of_nonneg (by omega)]
    have e2 := Int.emod_nonneg (-a) (show c ≠ 0 by omega)
    have e3 := Int.emod_lt_of_pos (-a) h
    omega
/-! short names for what a text says most -/
@[reducible] def iD (x : Int) : D := .lit (.int .i64 x)
@[reducible] def iC (x : Int) : C := .d (.lit (.int .i64 x))
@[reducible] def iE (x : Int) : E1 := .c (.d (.lit (.int .i64 x)))
@[reducible] def iV (x : Int) : PV := .e (.c (.d (.lit (.int .i64 x))))
@[reducible] def oV (b off n s : Nat) : PV := .e (.c (.own b off n s true))
@[reducible] def rV (b off : Nat) : PV := .e (.c (.ptr b off))
/-- a loop of few rounds -/
def AWr (cx : Cx) (n : Nat) (c : Code) (Q : Post) : Nat → St → Prop
  | 0, _ => False
  | k + 1, s => AW cx n c (thenP (AWr cx n c Q k) Q) s
theorem AWr.s {cx : Cx} {n : Nat} {c : Code} {Q : Post} {k : Nat} {s : St} (h : AW cx n c (thenP (AWr cx n c Q k) Q) s) : AWr cx n c Q (k + 1) s := h
theorem AWr.ok {cx : Cx} {n : Nat} {c : Code} {Q : Post} : ∀ {k : Nat} {s : St}, AWr cx n c Q k s → ∀ a w, Mod cx n s.l s.g s.nx a w → Code.rounds Try.prog c (fun e a' w' => ∃ s', Q e s' ∧ Mod cx n s'.l s'.g s'.nx a' w') k a w
  | 0, _, h, _, _, _ => h.elim
  | k + 1, s, h, a, w, hm => by
    refine wp_mono (h a w hm) ?_
    rintro e a' w' ⟨s', h1, h2⟩
    cases e with
    | normal => exact AWr.ok (k := k) h1 a' w' h2
    | _ => exact ⟨s', h1, h2⟩
theorem AW.rounds {cx : Cx} {n : Nat} {c : Code} {Q : Post} {s : St} (k : Nat) (h : AWr cx n c Q k s) : AW cx n (.loop c) Q s := fun a w hm => wp_loop_rounds k (h.ok a w hm)
theorem AWr.same {cx : Cx} {n n0 : Nat} {c : Code} {Q : Post} (hn : cx.n0 = n0) : ∀ {k : Nat} {s t : St}, Same n0 s t → AWr cx n c Q k t → AWr cx n c Q k s
  | 0, _, _, _, h => h.elim
  | _ + 1, _, _, ⟨σ, h1, h2⟩, h => AW.ren σ n0 _ hn h1 h2 h
end Go.Proofs.Ythafllabdfilpaa
