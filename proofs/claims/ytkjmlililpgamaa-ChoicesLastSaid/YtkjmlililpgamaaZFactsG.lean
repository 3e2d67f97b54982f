/- A region that draws its order, by facts, with guards whose values are known. No statement is proved here. -/
import Derived.Test.YtkjmlililpgamaaZFacts
namespace Go.Proofs.Ytkjmlililpgamaa
open Go.ChangeShapes Go.WideShapes Go.ChangeAt Go.RowKit
set_option linter.unusedVariables false
set_option linter.unusedSimpArgs false
def yW (ops : List Oper) : Bool :=
  (List.range ops.length).all fun i => match ops[i]? with
    | none => true
    | some o => ((match o.guard with
        | none => true
        | some (g, _) => (o.after.any fun e => e.on == g && Region.binds .any e) && (match ops[g]? with | some og => og.dst.isSome | none => false)) && (o.after.all fun e => !Region.binds .any e || decide (e.on < i))) && (List.range ops.length).all fun j => match ops[j]? with
      | none => true
      | some o' => i == j || o.dst.isNone || !(o.dst == o'.dst)
theorem cF {ops : List Oper} {a : Act} {val : Option Bool} {g : Nat} {og : Oper} {t : Tmp} (hg : ops[g]? = some og) (ht : og.dst = some t) (hts : t < a.tmps.size)
    (h1 : ∀ b, val = some b → vG a og = .bool b) (h2 : val = none → ∀ b, vG a og ≠ .bool b) : yielded ops.toArray a.tmps g = val := by
  have hs : a.tmps[t]? = some (vG a og) := by unfold vG; rw [ht]; simp [Array.getD_eq_getD_getElem?, hts]
  unfold yielded
  rw [List.getElem?_toArray, hg]
  simp only [Option.bind_some, ht, hs]
  cases val with
  | some b => rw [h1 b rfl]
  | none =>
    have := h2 rfl
    split
    · rename_i b hb; simp only [Option.some.injEq] at hb; exact absurd hb (this b)
    · rfl
theorem jB {ops : List Oper} (hp : yW ops = true) {listed : Array Bool} (hs : listed.size = ops.length) (hr : Region.ready .any ops.toArray listed = []) : ∀ j, j < ops.length → listed.getD j false = true := by
  intro j
  induction j using Nat.strongRecOn with
  | ind j ih =>
    intro hj
    cases hl : listed.getD j false with
    | true => rfl
    | false =>
      exfalso
      have : j ∈ Region.ready .any ops.toArray listed := by
        rw [mem_ready]
        refine ⟨?_, ops[j], by simp [hj], fun e he hb => ?_⟩
        · have : j < listed.size := by omega
          simp [Array.getD_eq_getD_getElem?, this] at hl ⊢
          exact hl
        · unfold yW at hp
          rw [List.all_eq_true] at hp
          have h1 := hp j (List.mem_range.2 hj)
          simp only [List.getElem?_eq_getElem hj, Bool.and_eq_true] at h1
          have h2 := h1.1.2
          rw [Array.all_eq_true_iff_forall_mem] at h2
          have h3 := h2 e he
          simp [hb] at h3
          exact ih e.on h3 (by omega)
      rw [hr] at this
      cases this
end Go.Proofs.Ytkjmlililpgamaa
