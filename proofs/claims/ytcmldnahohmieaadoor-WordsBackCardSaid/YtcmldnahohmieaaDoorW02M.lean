/- Numbers and their texts. No statement is proved here. -/
import Derived.Test.YtcmldnahohmieaaDoorL02N
import Derived.Test.YtcmldnahohmieaaDoorIto
namespace Go.Proofs.YtcmldnahohmieaaDoor
open Go.ChangeShapes Go.WideShapes Go.ChangeAt Go.RowKit
set_option linter.unusedVariables false
set_option linter.unusedSimpArgs false

theorem wrap_u64 (x : Int) : IntKind.u64.wrap x = x % 18446744073709551616 := by simp [IntKind.wrap, IntKind.bits, IntKind.signed]
theorem wrap_neg {x : Int} (h : x < 0) (h2 : -9223372036854775808 ≤ x) : IntKind.u64.wrap x = x + 18446744073709551616 := by rw [wrap_u64]; omega
theorem wrap_back {x : Int} (h : x < 0) (h2 : -9223372036854775808 ≤ x) : IntKind.u64.wrap (0 - (x + 18446744073709551616)) = 0 - x := by rw [wrap_u64]; omega
theorem itL_neg {n : Int} (h : n < 0) : itL n = 45 :: dcL (0 - n).toNat := by
  unfold itL dcL Lib.itoa
  rw [if_pos h, show n.natAbs = (0 - n).toNat by omega]
  rfl
theorem itL_nn {n : Int} (h : ¬ n < 0) : itL n = dcL n.toNat := by
  unfold itL dcL Lib.itoa
  rw [if_neg h]
theorem itL_byt (n : Int) : Byt (itL n) := by
  by_cases h : n < 0
  · rw [itL_neg h]; exact Byt.cons (by omega) (dcL_byt _)
  · rw [itL_nn h]; exact dcL_byt _
/-- digits written from behind -/
def DG (U u : Nat) (s : List Int) : Prop := dcL U = dcL u ++ s
theorem DG.zero (U : Nat) : DG U U [] := by unfold DG; rw [List.append_nil]
theorem DG.step {U u : Nat} {s : List Int} (h : DG U u s) (hu : ¬ u / 10 = 0) : DG U (u / 10) ([(48 + ((u : Nat) : Int) % 10)] ++ s) := by
  unfold DG at *
  rw [h, dcL_b (by omega), List.append_assoc]
  have e : ((48 + u % 10 : Nat) : Int) = 48 + ((u : Nat) : Int) % 10 := by omega
  rw [e]
theorem DG.fin {U u : Nat} {s : List Int} (h : DG U u s) (hu : u / 10 = 0) : [(48 + ((u : Nat) : Int) % 10)] ++ s = dcL U := by
  unfold DG at h
  rw [h, dcL_s (by omega)]
  have e : ((48 + u : Nat) : Int) = 48 + ((u : Nat) : Int) % 10 := by omega
  rw [e]
theorem va_stepM {d : List Int} {n k : Nat} (h : n = min (vaL (List.take k d)) 18014398509481984) (hk : k < d.length) : min (n * 10 + (List.getD d k 0 - 48).toNat) 18014398509481984 = min (vaL (List.take (k + 1) d)) 18014398509481984 := by rw [vaL_take hk]; omega
theorem ok_r0 {d : List Int} {b : Bool} (h : d.length = 0) : okD d b = false := ok_fst (by intro e; rw [e] at h; cases h) (.inl h)
theorem ok_r1 {d : List Int} {b : Bool} (h : 1 < d.length) (h2 : List.getD d 0 0 = 48) : okD d b = false := ok_fst (by intro e; rw [e] at h; exact absurd h (by decide)) (.inr h2)
theorem ok_r3 {d : List Int} {b : Bool} (h : ∀ j, j < d.length → 48 ≤ List.getD d j 0 ∧ List.getD d j 0 ≤ 57) (h0 : ¬ d.length = 0) (h1 : ¬ (1 < d.length ∧ List.getD d 0 0 = 48)) (h2 : b = true → ¬ d = [48]) : okD d b = true := by
  by_cases hd : List.getD d 0 0 = 48
  · have e := one_0 (d := d) (by omega) hd
    cases b with
    | true => exact absurd e (h2 rfl)
    | false => rw [ok_nul e]; rfl
  · exact ok_good h (by intro e; rw [e] at hd; exact hd rfl) h0 hd

end Go.Proofs.YtcmldnahohmieaaDoor
