/- LatencyFrames: the walk. -/
import Derived.Test.YtnfkcfogmficfaaLatencyTotal
namespace Go.Proofs.Ytnfkcfogmficfaa
open Go.ChangeShapes Go.WideShapes Go.ChangeAt Go.RowKit
set_option linter.unusedVariables false
set_option maxHeartbeats 4000000 in
theorem sane26_any (w : World) :
    Calls Try.prog 14 #[] w fun e w' => e = .returned (.bool true) ∧ Below w.heap.size w w' := by
  have k1 := fun w => of_any 48000 48000 48000 10 64 5 7 w
  rw [show ofV 48000 48000 48000 10 64 5 7 = ((10, 2, 64, 5, 7), 0) from by decide] at k1
  have k2 := fun w => frames_any 480 48000 96000 w
  have k3 := fun w => frames_any 1 44100 48000 w
  rw [show framesOf 480 48000 96000 = 960 from by decide] at k2
  rw [show framesOf 1 44100 48000 = 2 from by decide] at k3
  have k4 := fun w => total_any 10 2 64 5 7 w
  rw [show totV 10 2 64 5 7 = 88 from by decide] at k4
  have K1 := hid k1; have K2 := hid k2; have K3 := hid k3; have K4 := hid k4
  clear k1 k2 k3 k4
  go_enter Try.func14, Try.ntmps14
  go_wp2_with (first
    | (go_at_call 18; refine (K1.out _).mono ?_; rintro e w1 ⟨rfl, hb⟩; have HB1 := hid hb; clear hb)
    | (go_at_call 16; (with_reducible refine (K2.out _).mono ?_); rintro e w2 ⟨rfl, rfl⟩)
    | (go_at_call 16; (with_reducible refine (K3.out _).mono ?_); rintro e w2 ⟨rfl, rfl⟩)
    | (go_at_call 20; refine (K4.out _).mono ?_; rintro e w2 ⟨rfl, hb⟩; have HB2 := hid hb; clear hb))
  go_ret
  exact ⟨rfl, by have h1 := HB1.out; have h2 := HB2.out; exact h1.trans ((((Below.refl _ _).alloc (Nat.le_refl _) _).trans (h2.mono (by simp))).mono h1.size)⟩
set_option maxHeartbeats 2000000 in
theorem latencyFrames_walk (n a b : Int) (w : World) :
    Calls Try.prog 3 #[.int .i64 n, .int .i64 a, .int .i64 b] w fun e w' => e = .returned (.bool true) ∧ Below w.heap.size w w' := by
  have m1 := hid (fun v w => mod_any v 700000 (by omega) (by omega) w)
  have m2 := hid (fun v w => mod_any v 100000 (by omega) (by omega) w)
  have r1 := Int.emod_nonneg a (show (700000 : Int) ≠ 0 by omega)
  have r2 := Int.emod_lt_of_pos a (show (0 : Int) < 700000 by omega)
  have r3 := Int.emod_nonneg b (show (700000 : Int) ≠ 0 by omega)
  have r4 := Int.emod_lt_of_pos b (show (0 : Int) < 700000 by omega)
  obtain ⟨a1, ha1⟩ : ∃ x, a % 700000 = x := ⟨_, rfl⟩
  obtain ⟨b1, hb1⟩ : ∃ x, b % 700000 = x := ⟨_, rfl⟩
  rw [ha1] at r1 r2
  rw [hb1] at r3 r4
  go_enter Try.func3, Try.ntmps3
  go_wp2_with (first
    | (go_at_call 14; (with_reducible refine (sane26_any _).mono ?_); rintro e w1 ⟨rfl, hb⟩; have HB1 := hid hb; clear hb)
    | (go_at_call 15; (with_reducible refine (m1.out _ _).mono ?_); rintro e w1 ⟨rfl, rfl⟩)
    | (go_at_call 15; (with_reducible refine (m2.out _ _).mono ?_); rintro e w1 ⟨rfl, rfl⟩)
    | (go_at_call 16; (with_reducible refine (frames_any _ _ _ _).mono ?_); rintro e w1 ⟨rfl, rfl⟩)
    | (go_at_call 17; (with_reducible refine (rframes_any _ _ _ _).mono ?_); rintro e w1 ⟨rfl, rfl⟩))
  go_ret
  exact ⟨rfl, HB1.out⟩
end Go.Proofs.Ytnfkcfogmficfaa
