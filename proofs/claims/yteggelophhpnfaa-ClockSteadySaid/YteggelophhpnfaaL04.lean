/- Samples and blocks. No statement is proved here. -/
import Derived.Test.YteggelophhpnfaaAmK
namespace Go.Proofs.Yteggelophhpnfaa
open Go.ChangeShapes Go.WideShapes Go.ChangeAt Go.RowKit
set_option linter.unusedVariables false
set_option linter.unusedSimpArgs false


def smpB (s : Int) : Bool := decide (-8388608 ≤ s ∧ s ≤ 8388607)
theorem smp_yes {s : Int} (h : smpB s = true) : -8388608 ≤ s ∧ s ≤ 8388607 := by unfold smpB at h; exact of_decide_eq_true h
theorem smp_of {s : Int} (h : -8388608 ≤ s ∧ s ≤ 8388607) : smpB s = true := decide_eq_true h
theorem smp_not {s : Int} (h : s < -8388608 ∨ 8388607 < s) : smpB s = false := decide_eq_false (by omega)
/-- is it a block of whole frames -/
def okB (ch : Int) (l : List Int) : Bool := decide (1 ≤ ch ∧ ch ≤ 8 ∧ (l.length : Int) % ch = 0 ∧ (l.length : Int) / ch ≤ 65536) && l.all smpB
theorem all_of {l : List Int} {p : Int → Bool} (h : ∀ j, j < l.length → p (List.getD l j 0) = true) : l.all p = true := by
  rw [List.all_eq_true]
  intro x hx
  obtain ⟨i, hi, rfl⟩ := List.mem_iff_getElem.1 hx
  have := h i hi
  rwa [List.getD_eq_getElem?_getD, List.getElem?_eq_getElem hi] at this
theorem all_at {l : List Int} {p : Int → Bool} (h : l.all p = true) (j : Nat) (hj : j < l.length) : p (List.getD l j 0) = true := by
  rw [List.getD_eq_getElem?_getD, List.getElem?_eq_getElem hj]
  exact List.all_eq_true.1 h _ (List.getElem_mem hj)
theorem okB_t {ch : Int} {l : List Int} {n : Nat} (hn : List.length l = n) (h1 : 1 ≤ ch) (h2 : ch ≤ 8) (h3 : (n : Int) % ch = 0) (h4 : (n : Int) / ch ≤ 65536) (h5 : ∀ j, j < n → smpB (List.getD l j 0) = true) : okB ch l = true := by
  unfold okB
  rw [Bool.and_eq_true]
  exact ⟨decide_eq_true ⟨h1, h2, by rw [hn]; exact h3, by rw [hn]; exact h4⟩, all_of (fun j hj => h5 j (by omega))⟩
theorem okB_f {ch : Int} {l : List Int} {n : Nat} (hn : List.length l = n) (h : ¬ (1 ≤ ch ∧ ch ≤ 8 ∧ (n : Int) % ch = 0 ∧ (n : Int) / ch ≤ 65536)) : okB ch l = false := by
  unfold okB
  rw [hn, decide_eq_false h]; rfl
theorem okB_s {ch : Int} {l : List Int} {n k : Nat} (hn : List.length l = n) (hk : k < n) (h : smpB (List.getD l k 0) = false) : okB ch l = false := by
  cases hb : okB ch l with
  | false => rfl
  | true =>
    unfold okB at hb
    rw [Bool.and_eq_true] at hb
    have := all_at hb.2 k (by omega)
    rw [h] at this; cases this
/-- a block of f frames -/
structure BV (ch f : Nat) (l : List Int) : Prop where
  c1 : 1 ≤ ch
  c8 : ch ≤ 8
  len : List.length l = f * ch
  fit : f ≤ 65536
  smp : ∀ j, j < List.length l → smpB (List.getD l j 0) = true
theorem BV.ok {ch f : Nat} {l : List Int} (h : BV ch f l) : okB ch l = true := by
  obtain ⟨h1, h2, h3, h4, h5⟩ := h
  refine okB_t rfl (by omega) (by omega) ?_ ?_ h5
  · rw [h3, Int.natCast_mul]; exact Int.mul_emod_left _ _
  · rw [h3, Int.natCast_mul, Int.mul_ediv_cancel _ (by omega)]; omega
theorem BV.of {c : Int} {l : List Int} (h : okB c l = true) : ∃ ch f : Nat, c = ch ∧ BV ch f l := by
  unfold okB at h
  rw [Bool.and_eq_true] at h
  obtain ⟨h1, h2, h3, h4⟩ := of_decide_eq_true h.1
  refine ⟨c.toNat, ((l.length : Int) / c).toNat, by omega, by omega, by omega, ?_, by omega, fun j hj => all_at h.2 j hj⟩
  have e := Int.mul_ediv_add_emod (l.length : Int) c
  rw [h3] at e
  have h0 : 0 ≤ (l.length : Int) / c := Int.ediv_nonneg (by omega) (by omega)
  have e2 : ((((l.length : Int) / c).toNat * c.toNat : Nat) : Int) = (l.length : Int) := by
    rw [Int.natCast_mul, Int.toNat_of_nonneg h0, Int.toNat_of_nonneg (by omega), Int.mul_comm]; omega
  omega
theorem BV.big {ch f : Nat} {l : List Int} (h : BV ch f l) : f * ch ≤ 524288 := Nat.le_trans (Nat.mul_le_mul h.fit h.c8) (by omega)
theorem BV.quo {ch f : Nat} {l : List Int} (h : BV ch f l) : ((f * ch : Nat) : Int) / (ch : Int) = f := by
  rw [Int.natCast_mul, Int.mul_ediv_cancel _ (by have := h.c1; omega)]
theorem BV.at {ch f : Nat} {l : List Int} (h : BV ch f l) (j : Nat) (hj : j < f * ch) : -8388608 ≤ List.getD l j 0 ∧ List.getD l j 0 ≤ 8388607 := smp_yes (h.smp j (by rw [h.len]; exact hj))
def sameL (l m : List Int) : Bool := decide (l = m)
theorem sameL_rfl (l : List Int) : sameL l l = true := decide_eq_true rfl
theorem sameL_n {l m : List Int} (h : ¬ List.length l = List.length m) : sameL l m = false := decide_eq_false (fun e => h (by rw [e]))
theorem sameL_x {l m : List Int} {k : Nat} (h : ¬ List.getD l k 0 = List.getD m k 0) : sameL l m = false := decide_eq_false (fun e => h (by rw [e]))
theorem sameL_y {l m : List Int} (h : List.length l = List.length m) (h2 : ∀ j, j < List.length l → List.getD l j 0 = List.getD m j 0) : sameL l m = true := decide_eq_true (by
  apply List.ext_getElem h
  intro i h3 h4
  have := h2 i h3
  rwa [List.getD_eq_getElem?_getD, List.getD_eq_getElem?_getD, List.getElem?_eq_getElem h3, List.getElem?_eq_getElem h4] at this)
theorem sameL_of {l m : List Int} (h : sameL l m = true) : l = m := of_decide_eq_true h
def satI (n : Int) : Int := min (max n (-8388608)) 8388607
theorem satI_smp (n : Int) : -8388608 ≤ satI n ∧ satI n ≤ 8388607 := by unfold satI; omega


theorem getD_rep (n j : Nat) (x : Int) : List.getD (List.replicate n x) j x = x := by
  rw [List.getD_eq_getElem?_getD, List.getElem?_replicate]; split <;> rfl
theorem BV.zero {ch f : Nat} (h1 : 1 ≤ ch) (h2 : ch ≤ 8) (h3 : f ≤ 65536) : BV ch f (List.replicate (ch * f) 0) :=
  ⟨h1, h2, by rw [List.length_replicate, Nat.mul_comm], h3, fun j hj => by rw [getD_rep]; rfl⟩
theorem getD_app_l {l m : List Int} {j : Nat} (h : j < l.length) : List.getD (l ++ m) j 0 = List.getD l j 0 := by
  rw [List.getD_eq_getElem?_getD, List.getD_eq_getElem?_getD, List.getElem?_append_left h]
theorem getD_app_r {l m : List Int} {j : Nat} (h : l.length ≤ j) : List.getD (l ++ m) j 0 = List.getD m (j - l.length) 0 := by
  rw [List.getD_eq_getElem?_getD, List.getD_eq_getElem?_getD, List.getElem?_append_right h]
theorem getD_take {l : List Int} {n j : Nat} (h : j < n) : List.getD (List.take n l) j 0 = List.getD l j 0 := by
  rw [List.getD_eq_getElem?_getD, List.getD_eq_getElem?_getD, List.getElem?_take, if_pos h]
theorem getD_drop {l : List Int} {n j : Nat} : List.getD (List.drop n l) j 0 = List.getD l (n + j) 0 := by
  rw [List.getD_eq_getElem?_getD, List.getD_eq_getElem?_getD, List.getElem?_drop]

end Go.Proofs.Yteggelophhpnfaa
