/- Numbers as texts: strconv.Itoa. No statement is proved here. -/
import Derived.Test.YtcmldnahohmieaaDoorLaidP
import Derived.Test.YtcmldnahohmieaaDoorLBy
import Derived.Test.YtcmldnahohmieaaDoorShl
import Derived.Lib.AppendIntMem
namespace Go.Proofs.YtcmldnahohmieaaDoor
open Go.ChangeShapes Go.WideShapes Go.ChangeAt Go.RowKit
set_option linter.unusedVariables false
set_option linter.unusedSimpArgs false

/-- the bytes of a number's decimal form -/
def itL (n : Int) : List Int := (Lib.itoa n).map fun b => (b.toNat : Int)
theorem itL_str (n : Int) : strOfNums (itL n) = ⟨(Lib.itoa n).toArray⟩ := by
  unfold strOfNums itL
  rw [List.map_map]
  congr 2
  conv => rhs; rw [← List.map_id (Lib.itoa n)]
  refine List.map_congr_left fun b _ => ?_
  show UInt8.ofNat ((b.toNat : Int)).toNat = b
  rw [Int.toNat_natCast]
  exact UInt8.ofNat_toNat
theorem V_Itoa (n : Int) (hn : -9223372036854775808 ≤ n ∧ n ≤ 9223372036854775807) : Fun 37 [.c (.d (D.lit (.int .i64 n)))] [] 0 (LV (.string (strOfNums (itL n)))) [] 0 :=
  Fun.ofCalls (vs := [.int .i64 n]) rfl fun w hw => by
    obtain ⟨p, hp⟩ := hw
    refine (Tryd.strconv_Itoa n hn.1 hn.2 w (tab_of_gl hp)).mono ?_
    rintro e w' ⟨rfl, k, os, rfl⟩
    exact ⟨by rw [itL_str], Lib.below_grow _ w (Nat.le_refl _) k os⟩
/-- the digits -/
def dcL (u : Nat) : List Int := (Lib.decDigits u).map fun b => (b.toNat : Int)
theorem dcL_s {u : Nat} (h : u < 10) : dcL u = [((48 + u : Nat) : Int)] := by
  unfold dcL Lib.decDigits
  rw [dif_pos h]
  show [(((UInt8.ofNat (48 + u)).toNat : Nat) : Int)] = _
  rw [UInt8.toNat_ofNat', Nat.mod_eq_of_lt (by omega)]
theorem dcL_b {u : Nat} (h : ¬ u < 10) : dcL u = dcL (u / 10) ++ [((48 + u % 10 : Nat) : Int)] := by
  unfold dcL
  rw [Lib.decDigits, dif_neg h, List.map_append]
  congr 1
  show [(((UInt8.ofNat (48 + u % 10)).toNat : Nat) : Int)] = _
  rw [UInt8.toNat_ofNat', Nat.mod_eq_of_lt (by omega)]
theorem itL_pos (u : Nat) : itL ((u : Nat) : Int) = dcL u := by
  unfold itL dcL Lib.itoa
  rw [if_neg (by omega), Int.toNat_natCast]
theorem dcL_byt : ∀ u, Byt (dcL u) := fun u x hx => by
  unfold dcL at hx
  obtain ⟨b, _, rfl⟩ := List.mem_map.1 hx
  have := b.toNat_lt
  omega
theorem dcL_len {u : Nat} (h : u < 100000) : 1 ≤ (dcL u).length ∧ (dcL u).length ≤ 5 := by
  have step : ∀ v, 1 ≤ (dcL v).length ∧ ((dcL v).length = 1 ∨ (dcL v).length = (dcL (v / 10)).length + 1) ∧ (v < 10 → (dcL v).length = 1) := by
    intro v
    by_cases hv : v < 10
    · rw [dcL_s hv]; simp
    · rw [dcL_b hv, List.length_append]; simp; omega
  have h1 := step u; have h2 := step (u / 10); have h3 := step (u / 10 / 10); have h4 := step (u / 10 / 10 / 10); have h5 := step (u / 10 / 10 / 10 / 10)
  omega
end Go.Proofs.YtcmldnahohmieaaDoor
