/- Slices that are read and never written; parts of slices as runs. No statement is proved here. -/
import Derived.Test.YtlelnhapcfjhfaaRegR
namespace Go.Proofs.Ytlelnhapcfjhfaa
open Go.ChangeShapes Go.WideShapes Go.ChangeAt Go.RowKit
set_option linter.unusedVariables false
set_option linter.unusedSimpArgs false

/-- 's[lo:hi]' of a slice of one-cell elements -/
theorem run_part {P : Program} {k : IntKind} {w : World} {t e : TypeId} (hu : P.underlying t = some (.slice e)) (he : P.elem t = e) (hi1 : (P.info? e).map (·.size) = some 1) {a : Option Addr} {n cap : Nat} {l : List Int} (hs : Sl k w a n cap l) (kl kh : IntKind) (lo hi : Nat) (h1 : lo ≤ hi) (h2 : hi ≤ n) :
    ∃ p q, (∀ w', (Instr.sliceAt t (.slice a n cap) (some (.int kl (lo : Int))) (some (.int kh (hi : Int))) none).run P w' = .ok (.slice p (hi - lo) q) w') ∧ Sl k w p (hi - lo) q ((l.drop lo).take (hi - lo)) ∧ ∀ ad, p = some ad → ∃ ad0, a = some ad0 ∧ ad.block = ad0.block := by
  have hc : n ≤ cap := hs.2.1
  have hcm : cap ≤ maxLen := hs.2.2.1
  obtain ⟨i, hi2, hi3⟩ := Option.map_eq_some_iff.1 hi1
  have hrun : ∀ w', (Instr.sliceAt t (.slice a n cap) (some (.int kl (lo : Int))) (some (.int kh (hi : Int))) none).run P w' = .ok (.slice (if cap = lo then a else a.map (·.add lo)) (hi - lo) (cap - lo)) w' := by
    intro w'
    have hu' : P.underlying t = some (.slice (P.elem t)) := by rw [he]; exact hu
    have e1 := run_sliceAt_slice (P := P) (w := w') (t := t) (x := .slice a n cap) (lo := some (.int kl (lo : Int))) (hi := some (.int kh (hi : Int))) (mx := none) hu'
    have e2 := run_slice_lh (P := P) (w := w') (t := t) (a := a) (len := n) (cap := cap) hu' (kl := kl) (kh := kh) (l := (lo : Int)) (h := (hi : Int)) (by omega) (by omega) (by omega)
    rw [e1, e2]
    simp [sizeOf, typeInfo, he, hi2, hi3, sliced, Result.andThen]
  by_cases h0 : hi - lo = 0
  · refine ⟨_, _, hrun, ⟨by simp [h0], by omega, by omega, ?_, ?_, .inl h0⟩, ?_⟩
    · intro x hx; rw [h0] at hx; simp at hx
    · intro hp
      have : a = none := by
        split at hp
        · exact hp
        · cases a with
          | none => rfl
          | some _ => cases hp
      have := hs.2.2.2.2.1 this
      omega
    · intro ad hp
      split at hp
      · exact ⟨ad, hp, rfl⟩
      · cases a with
        | none => cases hp
        | some ad0 => cases hp; exact ⟨ad0, rfl, by unfold Addr.add; split <;> rfl⟩
  · have hcl : ¬ cap = lo := by omega
    rcases hs.2.2.2.2.2 with h | ⟨b, off, rfl, hlt, hcell⟩
    · omega
    · rw [if_neg hcl] at hrun
      refine ⟨some ⟨b, off + lo, none⟩, cap - lo, fun w' => by rw [hrun w']; simp [Addr.add], sl_sub ⟨hs.1, hs.2.1, hs.2.2.1, hs.2.2.2.1, hs.2.2.2.2.1, .inr ⟨b, off, rfl, hlt, hcell⟩⟩ lo (hi - lo) (cap - lo) (by omega) (by omega) (by omega), fun ad h => ⟨_, rfl, by cases h; rfl⟩⟩
/-- a slice that lies in none of the blocks F -/
def Sf (k : IntKind) (w : World) (a : Option Addr) (n cap : Nat) (l : List Int) (F : List Nat) : Prop := Sl k w a n cap l ∧ ∀ ad, a = some ad → ad.block ∉ F
theorem Sf.below {k : IntKind} {w w' : World} {a : Option Addr} {n cap : Nat} {l : List Int} {F : List Nat} (h : Sf k w a n cap l F) (hb : Below w.heap.size w w') : Sf k w' a n cap l F := ⟨h.1.below hb, h.2⟩
theorem Sf.only {k : IntKind} {w w' : World} {a : Option Addr} {n cap b : Nat} {l : List Int} {F : List Nat} (h : Sf k w a n cap l F) (ho : Only b w w') (hb : b ∈ F) : Sf k w' a n cap l F :=
  ⟨sl_same (d := b) h.1 ho.size ho.block (fun _ ad he e => h.2 ad he (e ▸ hb)), h.2⟩
theorem Sf.but {k : IntKind} {w w' : World} {a : Option Addr} {n cap b : Nat} {l : List Int} {F : List Nat} (h : Sf k w a n cap l F) (ho : But b w w') (hb : b ∈ F) : Sf k w' a n cap l F :=
  h.only ⟨ho.os, ho.tape, ho.output, ho.size, ho.block⟩ hb
/-- block b, from lo on -/
def NZ (w : World) (lo b : Nat) (vs : List Value) (T : TypeId) : Prop := Blk w b vs T ∧ lo ≤ b
theorem NZ.below {w w' : World} {lo b : Nat} {vs : List Value} {T : TypeId} (h : NZ w lo b vs T) (hb : Below w.heap.size w w') : NZ w' lo b vs T := ⟨h.1.kept hb, h.2⟩
theorem NZ.only {w w' : World} {lo b d : Nat} {vs : List Value} {T : TypeId} (h : NZ w lo b vs T) (hb : Only d w w') (hd : b ≠ d) : NZ w' lo b vs T := ⟨h.1.only hb hd, h.2⟩
theorem sl_of_blk {k : IntKind} {w : World} {b : Nat} {l : List Int} {T : TypeId} (h : Blk w b (l.map (Value.int k)) T) (hw : ∀ n ∈ l, (Lit.int k n).wf = true) (n : Nat) (hn : l.length = n) (hm : n ≤ maxLen) : Sl k w (some ⟨b, 0, none⟩) n n l := by
  refine ⟨hn, Nat.le_refl _, hm, hw, fun e => (by cases e), .inr ⟨b, 0, rfl, h.lt, fun i hi => ?_⟩⟩
  rw [Nat.zero_add, h.cell i (v := .int k (l.getD i 0)) (by rw [List.getElem?_map, List.getElem?_eq_getElem (by omega), List.getD_eq_getElem?_getD, List.getElem?_eq_getElem (by omega)]; rfl)]
theorem only_set (w : World) (b k : Nat) (v : Value) : Only b w (w.setCell ⟨b, k, none⟩ v) := only_setCells [v] k w
end Go.Proofs.Ytlelnhapcfjhfaa
