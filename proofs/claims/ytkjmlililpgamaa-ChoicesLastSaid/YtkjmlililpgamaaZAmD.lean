/- A memory told by names: from a law's own run to what a claim asks. No statement is proved here. -/
import Derived.Test.YtkjmlililpgamaaZAmK
import Derived.Test.YtkjmlililpgamaaZAmZ
namespace Go.Proofs.Ytkjmlililpgamaa
open Go.ChangeShapes Go.WideShapes Go.ChangeAt Go.RowKit
set_option linter.unusedVariables false
abbrev sV (k : IntKind) (l : List Int) (n : Nat) : PV := uT (dI k l) n
abbrev nV : PV := kL (.lit (.slice none 0 0))
abbrev bV (b : Bool) : PV := kL (.lit (.bool b))
theorem Fun.walk {f : Nat} {xs : List E1} (h : Fun f xs [] 0 (LV (.bool true)) [] 0) {w : World} {args : List Value} (ha : All2 (RepE (fun k => k < w.heap.size) Rh.no w) xs args) (hgl : GlOK (fun k => k < w.heap.size) w := by intro q hq; cases hq) :
  Calls Try.prog f args.toArray w fun e w' => e = .returned (.bool true) ∧ Below w.heap.size w w' := by
 have h0 : HRep ⟨fun k => k < w.heap.size, w, fun k => w.heap.size ≤ k, fun k h => by omega, fun k h => h, fun k h => h, Rh.no, 0, (fun b m h => by cases h), hgl⟩ Rh.no w (S []) :=
  ⟨fun b T cs hb => (by cases hb), fun b b' m m' hb => absurd rfl hb, fun b m hb => absurd rfl hb, fun k h => False.elim h, fun k h => False.elim h⟩
 refine (h ⟨fun k => k < w.heap.size, w, fun k => w.heap.size ≤ k, fun k h => by omega, fun k h => h, fun k h => h, Rh.no, 0, (fun b m h => by cases h), hgl⟩ args rfl h0 ha).mono ?_
 rintro e w' ⟨v, ρ', rfl, _, _, _, hk, hv⟩
 refine ⟨?_, ⟨hk.os, hk.tape, hk.output, hk.size, fun k hlt => hk.block k hlt (by show ¬ w.heap.size ≤ k; omega)⟩⟩
 have hv : RepC _ ρ' w' (.d (.lit (.bool true))) v := hv
 cases hv with
 | d h => cases h; rfl
theorem wB {k : IntKind} {w : World} {a : Option Addr} {len cap : Nat} {l : List Int} (h : Sl k w a len cap l) : RepE (fun k => k < w.heap.size) Rh.no w (.c (.d (.sl (dI k l) l.length))) (.slice a len cap) := by
 obtain ⟨h1, h2, h3, h4, h5, h6⟩ := h
 refine RepC.d ?_
 rcases h6 with h6 | ⟨b, off, rfl, hlt, hc⟩
 ·obtain rfl : l = [] := List.eq_nil_of_length_eq_zero (by omega)
  subst h6
  exact .nil a cap h3 h5
 ·subst h1
  refine .sl (dI k l) (l.map fun x => .int k x) b off l.length cap (by simp [dI]) ?_ ?_ (.inl hlt) hlt h2 h3
  ·intro i u hu
   have hi : i < l.length := by
    have := (List.getElem?_eq_some_iff.1 hu).1
    simpa using this
   have e : u = .int k (l.getD i 0) := by
    simp [hi] at hu
    subst hu
    simp [List.getD_eq_getElem?_getD, hi]
   rw [e]
   exact hc i hi
  ·intro i d u hd hu
   simp [dI] at hd hu
   obtain ⟨x, hx, rfl⟩ := hd
   obtain ⟨y, hy, rfl⟩ := hu
   rw [hx] at hy
   cases hy
   exact .lit _ rfl
theorem Sl.wf {k : IntKind} {w : World} {a : Option Addr} {len cap : Nat} {l : List Int} (h : Sl k w a len cap l) : ∀ n ∈ l, (Lit.int k n).wf = true := h.2.2.2.1
end Go.Proofs.Ytkjmlililpgamaa
