/- The rest from 0 on: no statement is proved here. -/
import Derived.Test.YtnfkcfogmficfaaBase
import Derived.Handy
namespace Go.Proofs.Ytnfkcfogmficfaa
open Go.ChangeShapes Go.WideShapes Go.ChangeAt Go.RowKit
set_option linter.unusedVariables false

theorem w64 {n : Int} (h1 : -9223372036854775808 ≤ n) (h2 : n ≤ 9223372036854775807) : wrap64 n = n := by unfold wrap64; omega
theorem ret_b {a b : Bool} (h : a = b) : Ending.returned (.bool a) = .returned (.bool b) := by rw [h]
theorem mod_eq {n b : Int} (hb : 0 < b) : (n.tmod b < 0 → n.tmod b + b = n % b) ∧ (¬ n.tmod b < 0 → n.tmod b = n % b) := by
  have hm := Int.emod_nonneg n (show b ≠ 0 by omega)
  have hm2 := Int.emod_lt_of_pos n hb
  rw [Int.tmod_eq_emod]
  split
  · exact ⟨fun h => by omega, fun _ => by omega⟩
  · exact ⟨fun _ => by omega, fun h => by omega⟩
theorem mod_any (v n : Int) (hn : 0 < n) (hn2 : n ≤ 1099511627776) (w : World) :
    Calls Try.prog 15 #[.int .i64 v, .int .i64 n] w fun e w' => e = .returned (.int .i64 (v % n)) ∧ w = w' := by
  have hf := hid (mod_eq (n := v) hn)
  have hm := hid (Int.emod_nonneg v (show n ≠ 0 by omega))
  have hm2 := hid (Int.emod_lt_of_pos v hn)
  go_enter Try.func15, Try.ntmps15
  go_wp2
  · have ht : v.tmod n < 0 := by assumption
    go_ret
    exact ⟨ret_int (by rw [hf.out.1 ht, w64 (by have := hm.out; omega) (by have := hm2.out; omega)]), rfl⟩
  · have ht : 0 ≤ v.tmod n := by assumption
    go_ret
    exact ⟨ret_int (by rw [hf.out.2 (by omega)]), rfl⟩
end Go.Proofs.Ytnfkcfogmficfaa
