/- A memory told by names: from a law's own run to what a claim asks. No statement is proved here. -/
import Derived.Test.YthafllabdfilpaaZAmK
import Derived.Test.YthafllabdfilpaaZAmZ
namespace Go.Proofs.Ythafllabdfilpaa
open Go.ChangeShapes Go.WideShapes Go.ChangeAt Go.RowKit
set_option linter.unusedVariables false
@[reducible] def bV (b : Bool) : PV := .e (.c (.d (.lit (.bool b))))
/-- a law that was handed what is read alone -/
theorem Fun.walk {f : Nat} {xs : List E1} (h : Fun f xs [] 0 (LV (.bool true)) [] 0) {w : World} {args : List Value} (ha : All2 (RepE (fun k => k < w.heap.size) Rh.no w) xs args) (hgl : GlOK (fun k => k < w.heap.size) w := by intro q hq; cases hq) :
    Calls Try.prog f args.toArray w fun e w' => e = .returned (.bool true) ∧ Below w.heap.size w w' := by
  have h0 : HRep ⟨fun k => k < w.heap.size, w, fun k => w.heap.size ≤ k, fun k h => by omega, fun k h => h, fun k h => h, Rh.no, 0, (fun b m h => by cases h), hgl⟩ Rh.no w (S []) :=
    ⟨fun b T cs hb => (by cases hb), fun b b' m m' hb => absurd rfl hb, fun b m hb => absurd rfl hb, fun k h => False.elim h, fun k h => False.elim h⟩
  refine (h ⟨fun k => k < w.heap.size, w, fun k => w.heap.size ≤ k, fun k h => by omega, fun k h => h, fun k h => h, Rh.no, 0, (fun b m h => by cases h), hgl⟩ args rfl h0 ha).mono ?_
  rintro e w' ⟨v, ρ', rfl, _, _, _, hk, hv⟩
  refine ⟨?_, ⟨hk.os, hk.tape, hk.output, hk.size, fun k hlt => hk.block k hlt (by show ¬ w.heap.size ≤ k; omega)⟩⟩
  have hv : RepC _ ρ' w' (.d (.lit (.bool true))) v := hv
  cases hv with
  | d h => cases h; rfl
/-- a number, a truth value, a text that came in -/
theorem repE_lit {w : World} {v : Value} (h : v.oneCell' = true) : RepE (fun k => k < w.heap.size) Rh.no w (.c (LC v)) v := RepC.d (.lit v h)
theorem Sl.wf {k : IntKind} {w : World} {a : Option Addr} {len cap : Nat} {l : List Int} (h : Sl k w a len cap l) : ∀ n ∈ l, (Lit.int k n).wf = true := h.2.2.2.1
end Go.Proofs.Ythafllabdfilpaa
