/- Numbers. No statement is proved here. -/
import Derived.Test.YtcmldnahohmieaaDoorL02C
namespace Go.Proofs.YtcmldnahohmieaaDoor
open Go.ChangeShapes Go.WideShapes Go.ChangeAt Go.RowKit
set_option linter.unusedVariables false
set_option linter.unusedSimpArgs false

/-! numbers -/
def dgB (x : Int) : Bool := decide (48 ≤ x ∧ x ≤ 57)
def okD (d : List Int) (neg : Bool) : Bool := d.all dgB && (if d = [48] then !neg else decide (¬ d.length = 0 ∧ ¬ List.getD d 0 0 = 48))
def vaF : Nat → List Int → Nat
  | n, [] => n
  | n, x :: r => vaF (n * 10 + (x - 48).toNat) r
def vaL (d : List Int) : Nat := vaF 0 d
theorem vaF_app (n : Nat) (a b : List Int) : vaF n (a ++ b) = vaF (vaF n a) b := by
  induction a generalizing n with
  | nil => rfl
  | cons x a ih => exact ih _
theorem vaF_ge (n : Nat) (r : List Int) : n ≤ vaF n r := by
  induction r generalizing n with
  | nil => exact Nat.le_refl _
  | cons x r ih => have := ih (n * 10 + (x - 48).toNat); show n ≤ vaF _ r; omega
theorem vaL_take {d : List Int} {k : Nat} (hk : k < d.length) : vaL (List.take (k + 1) d) = vaL (List.take k d) * 10 + (List.getD d k 0 - 48).toNat := by
  unfold vaL; rw [take_snoc hk, vaF_app]; rfl
theorem va_step {d : List Int} {n k : Nat} (h : n = vaL (List.take k d)) (hk : k < d.length) : n * 10 + (List.getD d k 0 - 48).toNat = vaL (List.take (k + 1) d) := by rw [vaL_take hk, h]
theorem vaL_le {d : List Int} {k : Nat} : vaL (List.take k d) ≤ vaL d := by
  have e : d = List.take k d ++ List.drop k d := (List.take_append_drop _ _).symm
  conv => rhs; rw [e]
  unfold vaL; rw [vaF_app]; exact vaF_ge _ _
def ngN (l : List Int) : Nat := if 1 ≤ l.length ∧ List.getD l 0 0 = 45 then 1 else 0
def dgL (l : List Int) : List Int := if ngN l = 1 then List.drop 1 l else l
def nuE (l : List Int) : Int := if okD (dgL l) (decide (ngN l = 1)) then (if 9007199254740992 < vaL (dgL l) then 2 else 0) else 5
def nuV (l : List Int) : Int := if nuE l = 0 then (if ngN l = 1 then 0 - ((vaL (dgL l) : Nat) : Int) else ((vaL (dgL l) : Nat) : Int)) else 0
theorem ng_cases (l : List Int) : (1 ≤ l.length ∧ List.getD l 0 0 = 45 ∧ ngN l = 1) ∨ (¬ (1 ≤ l.length ∧ List.getD l 0 0 = 45) ∧ ngN l = 0) := by
  unfold ngN
  by_cases h : 1 ≤ l.length ∧ List.getD l 0 0 = 45
  · rw [if_pos h]; exact .inl ⟨h.1, h.2, rfl⟩
  · rw [if_neg h]; exact .inr ⟨h, rfl⟩
theorem dg_y {l : List Int} (h : ngN l = 1) : dgL l = List.drop 1 l := if_pos h
theorem dg_n {l : List Int} (h : ngN l = 0) : dgL l = l := if_neg (by omega)
theorem nu_bad {l : List Int} {b : Bool} (hb : b = decide (ngN l = 1)) (h : okD (dgL l) b = false) : nuE l = 5 ∧ nuV l = 0 := by
  subst hb
  have e : nuE l = 5 := by unfold nuE; rw [h]; rfl
  exact ⟨e, by unfold nuV; rw [e]; rfl⟩
theorem nu_big {l : List Int} {b : Bool} (hb : b = decide (ngN l = 1)) (h : okD (dgL l) b = true) (h2 : 9007199254740992 < vaL (dgL l)) : nuE l = 2 ∧ nuV l = 0 := by
  subst hb
  have e : nuE l = 2 := by unfold nuE; rw [if_pos h, if_pos h2]
  exact ⟨e, by unfold nuV; rw [e]; rfl⟩
theorem nu_ok {l : List Int} {b : Bool} (hb : b = decide (ngN l = 1)) (h : okD (dgL l) b = true) (h2 : ¬ 9007199254740992 < vaL (dgL l)) : nuE l = 0 ∧ nuV l = (if ngN l = 1 then 0 - ((vaL (dgL l) : Nat) : Int) else ((vaL (dgL l) : Nat) : Int)) := by
  subst hb
  have e : nuE l = 0 := by unfold nuE; rw [if_pos h, if_neg h2]
  exact ⟨e, by unfold nuV; rw [if_pos e]⟩
theorem dgB_t {x : Int} (h : 48 ≤ x ∧ x ≤ 57) : dgB x = true := decide_eq_true h
theorem dgB_f {x : Int} (h : ¬ (48 ≤ x ∧ x ≤ 57)) : dgB x = false := decide_eq_false h
theorem all_no {d : List Int} {k : Nat} (hk : k < d.length) (h : ¬ (48 ≤ List.getD d k 0 ∧ List.getD d k 0 ≤ 57)) : d.all dgB = false := by
  cases hb : d.all dgB with
  | false => rfl
  | true => have := all_at hb k hk; rw [dgB_f h] at this; cases this
theorem ok_dig {d : List Int} {b : Bool} {k : Nat} (hk : k < d.length) (h : ¬ (48 ≤ List.getD d k 0 ∧ List.getD d k 0 ≤ 57)) : okD d b = false := by unfold okD; rw [all_no hk h]; rfl
theorem ok_nul {d : List Int} {b : Bool} (h : d = [48]) : okD d b = !b := by subst h; unfold okD; rw [if_pos rfl]; rfl
theorem ok_fst {d : List Int} {b : Bool} (h : ¬ d = [48]) (h2 : d.length = 0 ∨ List.getD d 0 0 = 48) : okD d b = false := by
  unfold okD; rw [if_neg h, decide_eq_false (by omega), Bool.and_false]
theorem ok_good {d : List Int} {b : Bool} (h : ∀ j, j < d.length → 48 ≤ List.getD d j 0 ∧ List.getD d j 0 ≤ 57) (h1 : ¬ d = [48]) (h2 : ¬ d.length = 0) (h3 : ¬ List.getD d 0 0 = 48) : okD d b = true := by
  unfold okD; rw [if_neg h1, decide_eq_true ⟨h2, h3⟩, all_of (fun j hj => dgB_t (h j hj))]; rfl
theorem one_0 {d : List Int} (h : d.length = 1) (h2 : List.getD d 0 0 = 48) : d = [48] := by
  match d, h with
  | [x], _ => have : x = 48 := h2; rw [this]
theorem okD_dig {d : List Int} {b : Bool} (h : okD d b = true) (j : Nat) (hj : j < d.length) : 48 ≤ List.getD d j 0 ∧ List.getD d j 0 ≤ 57 := by
  unfold okD at h
  rw [Bool.and_eq_true] at h
  exact of_decide_eq_true (all_at h.1 j hj)

end Go.Proofs.YtcmldnahohmieaaDoor
