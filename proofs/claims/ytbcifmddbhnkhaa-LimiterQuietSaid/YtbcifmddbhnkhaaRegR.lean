/- A region that draws its order, with phases: how its steps are taken. No statement is proved here. -/
import Derived.Test.YtbcifmddbhnkhaaFactsR
import Derived.Test.YtbcifmddbhnkhaaLx
namespace Go.Proofs.Ytbcifmddbhnkhaa
open Go.ChangeShapes Go.WideShapes Go.ChangeAt Go.RowKit
set_option linter.unusedVariables false
set_option linter.unusedSimpArgs false

def phA (ws : List Nat) (A : Nat → World → Prop) (L : Nat → Bool) (w : World) : Prop := A (ws.countP L) w
def phF (ws : List Nat) (F : Nat → Nat → Value → World → Prop) (L : Nat → Bool) (j : Nat) (v : Value) (w : World) : Prop := F (ws.countP L) j v w
theorem count_keep {ws : List Nat} {L : Nat → Bool} {i : Nat} (hi : ws.contains i = false) : ws.countP (fun j => if j = i then true else L j) = ws.countP L := by
  refine List.countP_congr fun x hx => ?_
  have : x ≠ i := by intro e; subst e; simp at hi; exact hi hx
  simp [this]
theorem phN_count {ws : List Nat} {L : Nat → Bool} {i : Nat} (hc : ws.count i = 1) (hL : L i = false) : ws.countP (fun j => if j = i then true else L j) = ws.countP L + 1 := by
  induction ws with
  | nil => simp at hc
  | cons x ws ih =>
    by_cases hx : x = i
    · subst hx
      have h0 : ws.contains x = false := by
        rw [List.count_cons_self] at hc
        have : ws.count x = 0 := by omega
        simp
        exact List.count_eq_zero.1 this
      rw [List.countP_cons, List.countP_cons, count_keep h0]
      simp [hL]
    · have h1 : ws.count i = 1 := by rwa [List.count_cons_of_ne hx] at hc
      rw [List.countP_cons, List.countP_cons, ih h1]
      simp [hx]
      omega
theorem phA_keep {ws : List Nat} {A : Nat → World → Prop} {L : Nat → Bool} {w : World} {i : Nat} (hi : ws.contains i = false) (h : phA ws A L w) : phA ws A (fun j => if j = i then true else L j) w := by
  unfold phA at *; rw [count_keep hi]; exact h
theorem phF_keep {ws : List Nat} {F : Nat → Nat → Value → World → Prop} {L : Nat → Bool} {j : Nat} {v : Value} {w : World} {i : Nat} (hi : ws.contains i = false) (h : phF ws F L j v w) : phF ws F (fun j => if j = i then true else L j) j v w := by
  unfold phF at *; rw [count_keep hi]; exact h
theorem phA_at {ws : List Nat} {A : Nat → World → Prop} {L : Nat → Bool} {w : World} {k : Nat} (hk : ws.countP L = k) (h : phA ws A L w) : A k w := by
  unfold phA at h; rw [hk] at h; exact h
theorem phF_at {ws : List Nat} {F : Nat → Nat → Value → World → Prop} {L : Nat → Bool} {j : Nat} {v : Value} {w : World} {k : Nat} (hk : ws.countP L = k) (h : phF ws F L j v w) : F k j v w := by
  unfold phF at h; rw [hk] at h; exact h
theorem phA_self {ws : List Nat} {A : Nat → World → Prop} {L : Nat → Bool} {w : World} (h : phA ws A L w) : A (ws.countP L) w := h
theorem phF_self {ws : List Nat} {F : Nat → Nat → Value → World → Prop} {L : Nat → Bool} {j : Nat} {v : Value} {w : World} (h : phF ws F L j v w) : F (ws.countP L) j v w := h
/-- a step of an operation that turns no phase -/
theorem phK_plain {ops : List Oper} {ws : List Nat} {A : Nat → World → Prop} {F : Nat → Nat → Value → World → Prop} {L : Nat → Bool} {i : Nat} {o : Oper} {a : Act} {w : World} {K : Act → World → Prop} (hi : ws.contains i = false)
    (hK : ∀ v w', phA ws A (fun j => if j = i then true else L j) w' → phF ws F (fun j => if j = i then true else L j) i (if o.dst.isSome then v else undef) w' → (∀ j oj, ops[j]? = some oj → j ≠ i → L j = true → phF ws F L j (slotOf a oj) w → phF ws F (fun j => if j = i then true else L j) j (slotOf a oj) w') → K (a.put o.dst v) w') :
    ∀ v w', A (ws.countP L) w' → F (ws.countP L) i (if o.dst.isSome then v else undef) w' → (∀ j oj, ops[j]? = some oj → j ≠ i → L j = true → F (ws.countP L) j (slotOf a oj) w → F (ws.countP L) j (slotOf a oj) w') → K (a.put o.dst v) w' :=
  fun v w' hA hF hk => hK v w' (phA_keep hi hA) (phF_keep hi hF) (fun j oj hj hji hl hf => phF_keep hi (hk j oj hj hji hl hf))
/-- a step of writer number p -/
theorem phK_write {ops : List Oper} {ws : List Nat} {A : Nat → World → Prop} {F : Nat → Nat → Value → World → Prop} {L : Nat → Bool} {i : Nat} {o : Oper} {a : Act} {w : World} {K : Act → World → Prop} (p : Nat) (h0 : ws.countP L = p) (h1 : ws.countP (fun j => if j = i then true else L j) = p + 1)
    (hK : ∀ v w', phA ws A (fun j => if j = i then true else L j) w' → phF ws F (fun j => if j = i then true else L j) i (if o.dst.isSome then v else undef) w' → (∀ j oj, ops[j]? = some oj → j ≠ i → L j = true → phF ws F L j (slotOf a oj) w → phF ws F (fun j => if j = i then true else L j) j (slotOf a oj) w') → K (a.put o.dst v) w') :
    ∀ v w', A (p + 1) w' → F (p + 1) i (if o.dst.isSome then v else undef) w' → (∀ j oj, ops[j]? = some oj → j ≠ i → L j = true → F p j (slotOf a oj) w → F (p + 1) j (slotOf a oj) w') → K (a.put o.dst v) w' :=
  fun v w' hA hF hk => hK v w' (by unfold phA; rw [h1]; exact hA) (by unfold phF; rw [h1]; exact hF) (fun j oj hj hji hl hf => by unfold phF at *; rw [h1]; rw [h0] at hf; exact hk j oj hj hji hl hf)
/-- block b, newer than lo -/
def NB (w : World) (lo b : Nat) (vs : List Value) (T : TypeId) : Prop := Blk w b vs T ∧ lo < b
theorem NB.below {w w' : World} {lo b : Nat} {vs : List Value} {T : TypeId} (h : NB w lo b vs T) (hb : Below w.heap.size w w') : NB w' lo b vs T := ⟨h.1.kept hb, h.2⟩
theorem NB.but {w w' : World} {lo b d : Nat} {vs : List Value} {T : TypeId} (h : NB w lo b vs T) (hb : But d w w') (hd : d ≤ lo) : NB w' lo b vs T := ⟨h.1.only ⟨hb.os, hb.tape, hb.output, hb.size, hb.block⟩ (by have := h.2; omega), h.2⟩
theorem NB.only {w w' : World} {lo b d : Nat} {vs : List Value} {T : TypeId} (h : NB w lo b vs T) (hb : Only d w w') (hd : b ≠ d) : NB w' lo b vs T := ⟨h.1.only hb hd, h.2⟩
theorem Lx.only {W w w' : World} {D : Option Nat} {L : List (Nat × List Value × TypeId)} (h : Lx W w D L) {g : Nat} (hg : Only g w w') (h1 : W.heap.size ≤ g) (h2 : ∀ x ∈ L, x.1 ≠ g) (h3 : ∀ d, D = some d → d < g) : Lx W w' D L :=
  h.grown (row := some g) ⟨hg.os, hg.tape, hg.output, hg.size, fun k hk hne => hg.block k hk (by simpa using hne)⟩ (fun k e => by cases e; exact ⟨h1, h2, h3⟩)
end Go.Proofs.Ytbcifmddbhnkhaa
