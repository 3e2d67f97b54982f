/- The laws of clients return true: the walks. -/
import Derived.Test.YtnfkcfogmficfaaClient
namespace Go.Proofs.Ytnfkcfogmficfaa
open Go.ChangeShapes Go.WideShapes Go.ChangeAt Go.RowKit
set_option linter.unusedVariables false

set_option maxHeartbeats 8000000 in
set_option maxRecDepth 100000 in
theorem sane36_any (w : World) :
    Calls Try.prog 45 #[] w fun e w' => e = .returned (.bool true) ∧ Below w.heap.size w w' := by
  go_enter Try.func45, Try.ntmps45
  go_wp2
  go_ret
  exact ⟨rfl, by go_grown⟩
theorem clientWhole_walk (b f : Int) (w : World) (hb : -9223372036854775808 ≤ b ∧ b ≤ 9223372036854775807) (hf : -9223372036854775808 ≤ f ∧ f ≤ 9223372036854775807) :
    Calls Try.prog 12 #[.int .i64 b, .int .i64 f] w fun e w' => e = .returned (.bool true) ∧ Below w.heap.size w w' := by
  obtain ⟨f0, hf0⟩ : ∃ x, f % 40 = x := ⟨_, rfl⟩
  obtain ⟨b0, hb0⟩ : ∃ x, b % 5000 = x := ⟨_, rfl⟩
  have r1 : 0 ≤ f0 ∧ f0 ≤ 39 := by omega
  have r2 : 0 ≤ b0 ∧ b0 ≤ 4999 := by omega
  obtain ⟨r11, r12⟩ := r1
  obtain ⟨r21, r22⟩ := r2
  have m1 := fun w => mod_any f 40 (by omega) (by omega) w
  have m2 := fun w => mod_any b 5000 (by omega) (by omega) w
  rw [hf0] at m1
  rw [hb0] at m2
  obtain ⟨n, hn⟩ : ∃ x, b0 / (1 + f0) = x := ⟨_, rfl⟩
  obtain ⟨n2, hn2⟩ : ∃ x, (if 0 ≤ b ∧ 1 ≤ f then b / f else 0) = x := ⟨_, rfl⟩
  have d1 := Int.mul_ediv_self_le (x := b0) (k := 1 + f0) (by omega)
  have d2 := Int.lt_mul_ediv_self_add (x := b0) (k := 1 + f0) (by omega)
  rw [hn, Int.mul_comm] at d1
  rw [hn] at d2
  have d0 : 0 ≤ n := by rw [← hn]; exact Int.ediv_nonneg (by omega) (by omega)
  have d3 : n ≤ 4999 := by
    have : n * 1 ≤ n * (1 + f0) := Int.mul_le_mul_of_nonneg_left (by omega) d0
    omega
  have c1 := fun w => cwhole_any b0 (1 + f0) w (by omega) (by omega)
  have c2 := fun w => cwhole_any b f w hb.1 hb.2
  have c3 := fun w => rwhole_any b f w hb.1 hb.2
  rw [if_pos (by omega), hn] at c1
  rw [hn2] at c2 c3
  have e3 : (n + 1) * (1 + f0) = (1 + f0) * n + (1 + f0) := by rw [Int.add_mul, Int.mul_comm, Int.one_mul]
  obtain ⟨P, hP⟩ : ∃ x, n * (1 + f0) = x := ⟨_, rfl⟩
  rw [hP] at d1
  obtain ⟨R, hR⟩ : ∃ x, (n + 1) * (1 + f0) = x := ⟨_, rfl⟩
  have d4 : b0 < R := by omega
  have d5 : 0 ≤ P := by rw [← hP]; exact Int.mul_nonneg d0 (by omega)
  have d6 : R ≤ 1000000 := by rw [← hR, e3, Int.mul_comm, hP]; omega
  have M1 := hid m1; have M2 := hid m2; have C1 := hid c1; have C2 := hid c2; have C3 := hid c3
  clear m1 m2 c1 c2 c3 hn hn2 e3 d2 hf0 hb0
  go_enter Try.func12, Try.ntmps12
  go_wp2_with (first
    | (go_at_call 45; (with_reducible refine (sane36_any _).mono ?_); rintro e w1 ⟨rfl, hb⟩; have HB1 := hid hb; clear hb)
    | (go_at_call 15; (with_reducible refine (M1.out _).mono ?_); rintro e w1 ⟨rfl, rfl⟩)
    | (go_at_call 15; (with_reducible refine (M2.out _).mono ?_); rintro e w1 ⟨rfl, rfl⟩)
    | (go_at_call 59; (with_reducible refine (C1.out _).mono ?_); rintro e w1 ⟨rfl, rfl⟩)
    | (go_at_call 59; (with_reducible refine (C2.out _).mono ?_); rintro e w1 ⟨rfl, rfl⟩)
    | (go_at_call 60; (with_reducible refine (C3.out _).mono ?_); rintro e w1 ⟨rfl, rfl⟩))
  go_ret
  exact ⟨rfl, HB1.out⟩
end Go.Proofs.Ytnfkcfogmficfaa
