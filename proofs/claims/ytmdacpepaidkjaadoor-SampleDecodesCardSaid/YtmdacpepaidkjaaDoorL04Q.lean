/- Encodings of samples. No statement is proved here. -/
import Derived.Test.YtmdacpepaidkjaaDoorL04K
namespace Go.Proofs.YtmdacpepaidkjaaDoor
open Go.ChangeShapes Go.WideShapes Go.ChangeAt Go.RowKit
set_option linter.unusedVariables false
set_option linter.unusedSimpArgs false

set_option maxHeartbeats 4000000 in
set_option maxRecDepth 100000 in
theorem K_int1 (l : List Int) (hn : List.length l = 1) (hb : Byt l) : Fun 32 [.c (.d (D.sl (dI .u8 l) 1)), .c (.d (D.lit (.bool false)))] (toG []) 0 (iV (sgn 128 (List.getD l 0 0))) (toG []) 0 := by
  refine Fun.mk (n := 46) Tryd.func32 rfl rfl (Nat.le_of_ble_eq_true rfl) ?_
  intro cx hcx
  refine AW.rgs [.no] [0, 1] [] (P := True) (l' := [(0, .e (.c (.d (D.sl (dI .u8 l) 1)))), (1, .e (.c (.d (D.lit (.bool false)))))]) (g' := []) (nx' := 0) (by kernel_rfl) trivial ?_
  refine AW.rgs [.no] [0, 1, 5] [] (P := True) (l' := [(0, .e (.c (.d (D.sl (dI .u8 l) 1)))), (1, .e (.c (.d (D.lit (.bool false))))), (5, iV 0)]) (g' := []) (nx' := 0) (by kernel_rfl) trivial ?_
  refine AW.seq ?_
  refine AW.rgs [.no, .no, .no] [0, 1, 5, 10, 11] [] (P := True) (l' := [(0, .e (.c (.d (D.sl (dI .u8 l) 1)))), (1, .e (.c (.d (D.lit (.bool false))))), (5, iV 0), (10, iV 1), (11, iV 0)]) (g' := []) (nx' := 0) (by kernel_rfl) trivial ?_
  refine AW.block ?_
  refine AW.rounds 2 ?_
  refine AWr.s ?_
  refine AW.rgs [.b true] [0, 1, 5, 10, 11, 12] [] (P := (((0 : Int) < 1))) (l' := [(0, .e (.c (.d (D.sl (dI .u8 l) 1)))), (1, .e (.c (.d (D.lit (.bool false))))), (5, iV 0), (10, iV 1), (11, iV 0), (12, .e (.c (.d (D.lit (.bool true)))))]) (g' := []) (nx' := 0) (by kernel_rfl) (by omega) ?_
  refine AW.seq ?_
  refine AW.cond_t (.tmp (Look.of rfl)) ?_
  refine AW.skip ?_
  refine AW.seq ?_
  refine AW.block ?_
  refine AW.rgs [.no, .no] [0, 1, 5, 6, 10, 11] [] (P := True) (l' := [(0, .e (.c (.d (D.sl (dI .u8 l) 1)))), (1, .e (.c (.d (D.lit (.bool false))))), (5, iV 0), (6, iV 0), (10, iV 1), (11, iV 0)]) (g' := []) (nx' := 0) (by kernel_rfl) trivial ?_
  have hx1 : 0 ≤ (List.getD l 0 0) ∧ (List.getD l 0 0) ≤ 255 := hb.at 0 (by omega)
  refine AW.rgs [.no, .no, .no, .w, .no, .w, .n 0, .d (D.lit (.int .u8 (List.getD l 0 0))), .no] [0, 1, 5, 6, 7, 10, 11] [] (P := ((-9223372036854775808) ≤ (0 : Int) ∧ (0 : Int) ≤ 9223372036854775807) ∧ ((-9223372036854775808) ≤ (0 : Int) ∧ (0 : Int) ≤ 9223372036854775807) ∧ ((0 : Int) = 0) ∧ ((0 : Nat) < 1) ∧ ((List.drop 0 (dI .u8 l))[0]? = some (D.lit (.int .u8 (List.getD l 0 0))))) (l' := [(0, .e (.c (.d (D.sl (dI .u8 l) 1)))), (1, .e (.c (.d (D.lit (.bool false))))), (5, iV 0), (6, iV 0), (7, .e (.c (.d (D.lit (.int .u8 (List.getD l 0 0)))))), (10, iV 1), (11, iV 0)]) (g' := []) (nx' := 0) (by kernel_rfl) ⟨⟨by omega, by omega⟩, ⟨by omega, by omega⟩, rfl, (by omega), (dI_at _ _ _ (by first | omega | rfl | (rw [dI_len]; omega) | (simp [dI_len] <;> omega)))⟩ ?_
  refine AW.seq ?_
  refine AW.rgs [.no] [0, 1, 5, 6, 7, 10, 11, 22] [] (P := True) (l' := [(0, .e (.c (.d (D.sl (dI .u8 l) 1)))), (1, .e (.c (.d (D.lit (.bool false))))), (5, iV 0), (6, iV 0), (7, .e (.c (.d (D.lit (.int .u8 (List.getD l 0 0)))))), (10, iV 1), (11, iV 0), (22, .e (.c (.d (D.lit (.bool false)))))]) (g' := []) (nx' := 0) (by kernel_rfl) trivial ?_
  refine AW.cond_f (.tmp (Look.of rfl)) ?_
  refine AW.skip ?_
  refine AW.rg [.no, .n 8, .no, .w, .i (List.getD l 0 0), .no] [0, 1, 5, 10, 11] [] (P := ((8 : Int) = 8) ∧ ((8 : Nat) ≤ 64) ∧ ((-9223372036854775808) ≤ (0 : Int) ∧ (0 : Int) ≤ 9223372036854775807) ∧ ((-9223372036854775808) ≤ (List.getD l 0 0) ∧ (List.getD l 0 0) ≤ 9223372036854775807) ∧ (bitsI .or .i64 0 (List.getD l 0 0) = (List.getD l 0 0))) (l' := [(0, .e (.c (.d (D.sl (dI .u8 l) 1)))), (1, .e (.c (.d (D.lit (.bool false))))), (5, iV (List.getD l 0 0)), (10, iV 1), (11, iV 0)]) (g' := []) (nx' := 0) (by kernel_rfl) ⟨rfl, (by omega), ⟨by omega, by omega⟩, ⟨by omega, by omega⟩, (or_z .i64 (by simp) (by omega)).1⟩ ?_
  refine AW.rg [.w, .no] [0, 1, 5, 10, 11] [] (P := ((-9223372036854775808) ≤ (1 : Int) ∧ (1 : Int) ≤ 9223372036854775807)) (l' := [(0, .e (.c (.d (D.sl (dI .u8 l) 1)))), (1, .e (.c (.d (D.lit (.bool false))))), (5, iV (List.getD l 0 0)), (10, iV 1), (11, iV 1)]) (g' := []) (nx' := 0) (by kernel_rfl) ⟨by omega, by omega⟩ ?_
  refine AWr.s ?_
  refine AW.rgs [.b false] [0, 1, 5, 10, 11, 12] [] (P := (¬ ((1 : Int) < 1))) (l' := [(0, .e (.c (.d (D.sl (dI .u8 l) 1)))), (1, .e (.c (.d (D.lit (.bool false))))), (5, iV (List.getD l 0 0)), (10, iV 1), (11, iV 1), (12, .e (.c (.d (D.lit (.bool false)))))]) (g' := []) (nx' := 0) (by kernel_rfl) (by omega) ?_
  refine AW.seq ?_
  refine AW.cond_f (.tmp (Look.of rfl)) ?_
  refine AW.exit ?_
  refine AW.seq ?_
  refine AW.rgs [.no, .no, .w, .w, .n 7, .no] [5, 8] [] (P := ((-9223372036854775808) ≤ (8 : Int) ∧ (8 : Int) ≤ 9223372036854775807) ∧ ((-9223372036854775808) ≤ (7 : Int) ∧ (7 : Int) ≤ 9223372036854775807) ∧ ((7 : Int) = 7) ∧ ((7 : Nat) ≤ 64) ∧ ((-9223372036854775808) ≤ (128 : Int) ∧ (128 : Int) ≤ 9223372036854775807)) (l' := [(5, iV (List.getD l 0 0)), (8, iV 128)]) (g' := []) (nx' := 0) (by kernel_rfl) ⟨⟨by omega, by omega⟩, ⟨by omega, by omega⟩, rfl, (by omega), ⟨by omega, by omega⟩⟩ ?_
  by_cases hx2 : ((128 : Int) ≤ (List.getD l 0 0))
  · refine AW.rgs [.no, .no, .b true] [5, 8, 40] [] (P := (((128 : Int) ≤ (List.getD l 0 0)))) (l' := [(5, iV (List.getD l 0 0)), (8, iV 128), (40, .e (.c (.d (D.lit (.bool true)))))]) (g' := []) (nx' := 0) (by kernel_rfl) (by omega) ?_
    refine AW.cond_t (.tmp (Look.of rfl)) ?_
    refine AW.rg [.no, .no, .w, .w, .no] [5] [] (P := ((-9223372036854775808) ≤ (256 : Int) ∧ (256 : Int) ≤ 9223372036854775807) ∧ ((-9223372036854775808) ≤ ((List.getD l 0 0) - 256) ∧ ((List.getD l 0 0) - 256) ≤ 9223372036854775807)) (l' := [(5, iV ((List.getD l 0 0) - 256))]) (g' := []) (nx' := 0) (by kernel_rfl) ⟨⟨by omega, by omega⟩, ⟨by omega, by omega⟩⟩ ?_
    refine AW.rgs [.no, .no] [4] [] (P := True) (l' := [(4, iV ((List.getD l 0 0) - 256))]) (g' := []) (nx' := 0) (by kernel_rfl) trivial ?_
    refine AW.ret ?_
    exact EndP.of (.inr rfl) [] (P := (((sgn 128 (List.getD l 0 0)) : Int) = ((List.getD l 0 0) - 256))) (by kernel_rfl) (by first | rfl | omega | (unfold sgn; split <;> omega))
  · refine AW.rgs [.no, .no, .b false] [5, 8, 40] [] (P := (¬ ((128 : Int) ≤ (List.getD l 0 0)))) (l' := [(5, iV (List.getD l 0 0)), (8, iV 128), (40, .e (.c (.d (D.lit (.bool false)))))]) (g' := []) (nx' := 0) (by kernel_rfl) (by omega) ?_
    refine AW.cond_f (.tmp (Look.of rfl)) ?_
    refine AW.skip ?_
    refine AW.rgs [.no, .no] [4] [] (P := True) (l' := [(4, iV (List.getD l 0 0))]) (g' := []) (nx' := 0) (by kernel_rfl) trivial ?_
    refine AW.ret ?_
    exact EndP.of (.inr rfl) [] (P := (((sgn 128 (List.getD l 0 0)) : Int) = (List.getD l 0 0))) (by kernel_rfl) (by first | rfl | omega | (unfold sgn; split <;> omega))

set_option maxHeartbeats 4000000 in
set_option maxRecDepth 100000 in
theorem K_int2 (l : List Int) (hn : List.length l = 2) (hb : Byt l) : Fun 32 [.c (.d (D.sl (dI .u8 l) 2)), .c (.d (D.lit (.bool false)))] (toG []) 0 (iV (sgn 32768 ((List.getD l 0 0) + ((List.getD l 1 0) * 256)))) (toG []) 0 := by
  refine Fun.mk (n := 46) Tryd.func32 rfl rfl (Nat.le_of_ble_eq_true rfl) ?_
  intro cx hcx
  refine AW.rgs [.no] [0, 1] [] (P := True) (l' := [(0, .e (.c (.d (D.sl (dI .u8 l) 2)))), (1, .e (.c (.d (D.lit (.bool false)))))]) (g' := []) (nx' := 0) (by kernel_rfl) trivial ?_
  refine AW.rgs [.no] [0, 1, 5] [] (P := True) (l' := [(0, .e (.c (.d (D.sl (dI .u8 l) 2)))), (1, .e (.c (.d (D.lit (.bool false))))), (5, iV 0)]) (g' := []) (nx' := 0) (by kernel_rfl) trivial ?_
  refine AW.seq ?_
  refine AW.rgs [.no, .no, .no] [0, 1, 5, 10, 11] [] (P := True) (l' := [(0, .e (.c (.d (D.sl (dI .u8 l) 2)))), (1, .e (.c (.d (D.lit (.bool false))))), (5, iV 0), (10, iV 2), (11, iV 0)]) (g' := []) (nx' := 0) (by kernel_rfl) trivial ?_
  refine AW.block ?_
  refine AW.rounds 3 ?_
  refine AWr.s ?_
  refine AW.rgs [.b true] [0, 1, 5, 10, 11, 12] [] (P := (((0 : Int) < 2))) (l' := [(0, .e (.c (.d (D.sl (dI .u8 l) 2)))), (1, .e (.c (.d (D.lit (.bool false))))), (5, iV 0), (10, iV 2), (11, iV 0), (12, .e (.c (.d (D.lit (.bool true)))))]) (g' := []) (nx' := 0) (by kernel_rfl) (by omega) ?_
  refine AW.seq ?_
  refine AW.cond_t (.tmp (Look.of rfl)) ?_
  refine AW.skip ?_
  refine AW.seq ?_
  refine AW.block ?_
  refine AW.rgs [.no, .no] [0, 1, 5, 6, 10, 11] [] (P := True) (l' := [(0, .e (.c (.d (D.sl (dI .u8 l) 2)))), (1, .e (.c (.d (D.lit (.bool false))))), (5, iV 0), (6, iV 0), (10, iV 2), (11, iV 0)]) (g' := []) (nx' := 0) (by kernel_rfl) trivial ?_
  have hx1 : 0 ≤ (List.getD l 1 0) ∧ (List.getD l 1 0) ≤ 255 := hb.at 1 (by omega)
  refine AW.rgs [.no, .no, .no, .w, .no, .w, .n 1, .d (D.lit (.int .u8 (List.getD l 1 0))), .no] [0, 1, 5, 6, 7, 10, 11] [] (P := ((-9223372036854775808) ≤ (1 : Int) ∧ (1 : Int) ≤ 9223372036854775807) ∧ ((-9223372036854775808) ≤ (1 : Int) ∧ (1 : Int) ≤ 9223372036854775807) ∧ ((1 : Int) = 1) ∧ ((1 : Nat) < 2) ∧ ((List.drop 1 (dI .u8 l))[0]? = some (D.lit (.int .u8 (List.getD l 1 0))))) (l' := [(0, .e (.c (.d (D.sl (dI .u8 l) 2)))), (1, .e (.c (.d (D.lit (.bool false))))), (5, iV 0), (6, iV 0), (7, .e (.c (.d (D.lit (.int .u8 (List.getD l 1 0)))))), (10, iV 2), (11, iV 0)]) (g' := []) (nx' := 0) (by kernel_rfl) ⟨⟨by omega, by omega⟩, ⟨by omega, by omega⟩, rfl, (by omega), (dI_at _ _ _ (by first | omega | rfl | (rw [dI_len]; omega) | (simp [dI_len] <;> omega)))⟩ ?_
  refine AW.seq ?_
  refine AW.rgs [.no] [0, 1, 5, 6, 7, 10, 11, 22] [] (P := True) (l' := [(0, .e (.c (.d (D.sl (dI .u8 l) 2)))), (1, .e (.c (.d (D.lit (.bool false))))), (5, iV 0), (6, iV 0), (7, .e (.c (.d (D.lit (.int .u8 (List.getD l 1 0)))))), (10, iV 2), (11, iV 0), (22, .e (.c (.d (D.lit (.bool false)))))]) (g' := []) (nx' := 0) (by kernel_rfl) trivial ?_
  refine AW.cond_f (.tmp (Look.of rfl)) ?_
  refine AW.skip ?_
  refine AW.rg [.no, .n 8, .no, .w, .i (List.getD l 1 0), .no] [0, 1, 5, 10, 11] [] (P := ((8 : Int) = 8) ∧ ((8 : Nat) ≤ 64) ∧ ((-9223372036854775808) ≤ (0 : Int) ∧ (0 : Int) ≤ 9223372036854775807) ∧ ((-9223372036854775808) ≤ (List.getD l 1 0) ∧ (List.getD l 1 0) ≤ 9223372036854775807) ∧ (bitsI .or .i64 0 (List.getD l 1 0) = (List.getD l 1 0))) (l' := [(0, .e (.c (.d (D.sl (dI .u8 l) 2)))), (1, .e (.c (.d (D.lit (.bool false))))), (5, iV (List.getD l 1 0)), (10, iV 2), (11, iV 0)]) (g' := []) (nx' := 0) (by kernel_rfl) ⟨rfl, (by omega), ⟨by omega, by omega⟩, ⟨by omega, by omega⟩, (or_z .i64 (by simp) (by omega)).1⟩ ?_
  refine AW.rg [.w, .no] [0, 1, 5, 10, 11] [] (P := ((-9223372036854775808) ≤ (1 : Int) ∧ (1 : Int) ≤ 9223372036854775807)) (l' := [(0, .e (.c (.d (D.sl (dI .u8 l) 2)))), (1, .e (.c (.d (D.lit (.bool false))))), (5, iV (List.getD l 1 0)), (10, iV 2), (11, iV 1)]) (g' := []) (nx' := 0) (by kernel_rfl) ⟨by omega, by omega⟩ ?_
  refine AWr.s ?_
  refine AW.rgs [.b true] [0, 1, 5, 10, 11, 12] [] (P := (((1 : Int) < 2))) (l' := [(0, .e (.c (.d (D.sl (dI .u8 l) 2)))), (1, .e (.c (.d (D.lit (.bool false))))), (5, iV (List.getD l 1 0)), (10, iV 2), (11, iV 1), (12, .e (.c (.d (D.lit (.bool true)))))]) (g' := []) (nx' := 0) (by kernel_rfl) (by omega) ?_
  refine AW.seq ?_
  refine AW.cond_t (.tmp (Look.of rfl)) ?_
  refine AW.skip ?_
  refine AW.seq ?_
  refine AW.block ?_
  refine AW.rgs [.no, .no] [0, 1, 5, 6, 10, 11] [] (P := True) (l' := [(0, .e (.c (.d (D.sl (dI .u8 l) 2)))), (1, .e (.c (.d (D.lit (.bool false))))), (5, iV (List.getD l 1 0)), (6, iV 1), (10, iV 2), (11, iV 1)]) (g' := []) (nx' := 0) (by kernel_rfl) trivial ?_
  have hx2 : 0 ≤ (List.getD l 0 0) ∧ (List.getD l 0 0) ≤ 255 := hb.at 0 (by omega)
  refine AW.rgs [.no, .no, .no, .w, .no, .w, .n 0, .d (D.lit (.int .u8 (List.getD l 0 0))), .no] [0, 1, 5, 6, 7, 10, 11] [] (P := ((-9223372036854775808) ≤ (1 : Int) ∧ (1 : Int) ≤ 9223372036854775807) ∧ ((-9223372036854775808) ≤ (0 : Int) ∧ (0 : Int) ≤ 9223372036854775807) ∧ ((0 : Int) = 0) ∧ ((0 : Nat) < 2) ∧ ((List.drop 0 (dI .u8 l))[0]? = some (D.lit (.int .u8 (List.getD l 0 0))))) (l' := [(0, .e (.c (.d (D.sl (dI .u8 l) 2)))), (1, .e (.c (.d (D.lit (.bool false))))), (5, iV (List.getD l 1 0)), (6, iV 1), (7, .e (.c (.d (D.lit (.int .u8 (List.getD l 0 0)))))), (10, iV 2), (11, iV 1)]) (g' := []) (nx' := 0) (by kernel_rfl) ⟨⟨by omega, by omega⟩, ⟨by omega, by omega⟩, rfl, (by omega), (dI_at _ _ _ (by first | omega | rfl | (rw [dI_len]; omega) | (simp [dI_len] <;> omega)))⟩ ?_
  refine AW.seq ?_
  refine AW.rgs [.no] [0, 1, 5, 6, 7, 10, 11, 22] [] (P := True) (l' := [(0, .e (.c (.d (D.sl (dI .u8 l) 2)))), (1, .e (.c (.d (D.lit (.bool false))))), (5, iV (List.getD l 1 0)), (6, iV 1), (7, .e (.c (.d (D.lit (.int .u8 (List.getD l 0 0)))))), (10, iV 2), (11, iV 1), (22, .e (.c (.d (D.lit (.bool false)))))]) (g' := []) (nx' := 0) (by kernel_rfl) trivial ?_
  refine AW.cond_f (.tmp (Look.of rfl)) ?_
  refine AW.skip ?_
  refine AW.rg [.no, .n 8, .no, .w, .i (((List.getD l 1 0) * 256) + (List.getD l 0 0)), .no] [0, 1, 5, 10, 11] [] (P := ((8 : Int) = 8) ∧ ((8 : Nat) ≤ 64) ∧ ((-9223372036854775808) ≤ ((List.getD l 1 0) * 256) ∧ ((List.getD l 1 0) * 256) ≤ 9223372036854775807) ∧ ((-9223372036854775808) ≤ (List.getD l 0 0) ∧ (List.getD l 0 0) ≤ 9223372036854775807) ∧ (bitsI .or .i64 ((List.getD l 1 0) * 256) (List.getD l 0 0) = (((List.getD l 1 0) * 256) + (List.getD l 0 0)))) (l' := [(0, .e (.c (.d (D.sl (dI .u8 l) 2)))), (1, .e (.c (.d (D.lit (.bool false))))), (5, iV (((List.getD l 1 0) * 256) + (List.getD l 0 0))), (10, iV 2), (11, iV 1)]) (g' := []) (nx' := 0) (by kernel_rfl) ⟨rfl, (by omega), ⟨by omega, by omega⟩, ⟨by omega, by omega⟩, (or_hi (by simp) (i := 8) 256 (by decide) (by omega) (by omega) (by omega))⟩ ?_
  refine AW.rg [.w, .no] [0, 1, 5, 10, 11] [] (P := ((-9223372036854775808) ≤ (2 : Int) ∧ (2 : Int) ≤ 9223372036854775807)) (l' := [(0, .e (.c (.d (D.sl (dI .u8 l) 2)))), (1, .e (.c (.d (D.lit (.bool false))))), (5, iV (((List.getD l 1 0) * 256) + (List.getD l 0 0))), (10, iV 2), (11, iV 2)]) (g' := []) (nx' := 0) (by kernel_rfl) ⟨by omega, by omega⟩ ?_
  refine AWr.s ?_
  refine AW.rgs [.b false] [0, 1, 5, 10, 11, 12] [] (P := (¬ ((2 : Int) < 2))) (l' := [(0, .e (.c (.d (D.sl (dI .u8 l) 2)))), (1, .e (.c (.d (D.lit (.bool false))))), (5, iV (((List.getD l 1 0) * 256) + (List.getD l 0 0))), (10, iV 2), (11, iV 2), (12, .e (.c (.d (D.lit (.bool false)))))]) (g' := []) (nx' := 0) (by kernel_rfl) (by omega) ?_
  refine AW.seq ?_
  refine AW.cond_f (.tmp (Look.of rfl)) ?_
  refine AW.exit ?_
  refine AW.seq ?_
  refine AW.rgs [.no, .no, .w, .w, .n 15, .no] [5, 8] [] (P := ((-9223372036854775808) ≤ (16 : Int) ∧ (16 : Int) ≤ 9223372036854775807) ∧ ((-9223372036854775808) ≤ (15 : Int) ∧ (15 : Int) ≤ 9223372036854775807) ∧ ((15 : Int) = 15) ∧ ((15 : Nat) ≤ 64) ∧ ((-9223372036854775808) ≤ (32768 : Int) ∧ (32768 : Int) ≤ 9223372036854775807)) (l' := [(5, iV (((List.getD l 1 0) * 256) + (List.getD l 0 0))), (8, iV 32768)]) (g' := []) (nx' := 0) (by kernel_rfl) ⟨⟨by omega, by omega⟩, ⟨by omega, by omega⟩, rfl, (by omega), ⟨by omega, by omega⟩⟩ ?_
  by_cases hx3 : ((32768 : Int) ≤ (((List.getD l 1 0) * 256) + (List.getD l 0 0)))
  · refine AW.rgs [.no, .no, .b true] [5, 8, 40] [] (P := (((32768 : Int) ≤ (((List.getD l 1 0) * 256) + (List.getD l 0 0))))) (l' := [(5, iV (((List.getD l 1 0) * 256) + (List.getD l 0 0))), (8, iV 32768), (40, .e (.c (.d (D.lit (.bool true)))))]) (g' := []) (nx' := 0) (by kernel_rfl) (by omega) ?_
    refine AW.cond_t (.tmp (Look.of rfl)) ?_
    refine AW.rg [.no, .no, .w, .w, .no] [5] [] (P := ((-9223372036854775808) ≤ (65536 : Int) ∧ (65536 : Int) ≤ 9223372036854775807) ∧ ((-9223372036854775808) ≤ ((((List.getD l 1 0) * 256) + (List.getD l 0 0)) - 65536) ∧ ((((List.getD l 1 0) * 256) + (List.getD l 0 0)) - 65536) ≤ 9223372036854775807)) (l' := [(5, iV ((((List.getD l 1 0) * 256) + (List.getD l 0 0)) - 65536))]) (g' := []) (nx' := 0) (by kernel_rfl) ⟨⟨by omega, by omega⟩, ⟨by omega, by omega⟩⟩ ?_
    refine AW.rgs [.no, .no] [4] [] (P := True) (l' := [(4, iV ((((List.getD l 1 0) * 256) + (List.getD l 0 0)) - 65536))]) (g' := []) (nx' := 0) (by kernel_rfl) trivial ?_
    refine AW.ret ?_
    exact EndP.of (.inr rfl) [] (P := (((sgn 32768 ((List.getD l 0 0) + ((List.getD l 1 0) * 256))) : Int) = ((((List.getD l 1 0) * 256) + (List.getD l 0 0)) - 65536))) (by kernel_rfl) (by first | rfl | omega | (unfold sgn; split <;> omega))
  · refine AW.rgs [.no, .no, .b false] [5, 8, 40] [] (P := (¬ ((32768 : Int) ≤ (((List.getD l 1 0) * 256) + (List.getD l 0 0))))) (l' := [(5, iV (((List.getD l 1 0) * 256) + (List.getD l 0 0))), (8, iV 32768), (40, .e (.c (.d (D.lit (.bool false)))))]) (g' := []) (nx' := 0) (by kernel_rfl) (by omega) ?_
    refine AW.cond_f (.tmp (Look.of rfl)) ?_
    refine AW.skip ?_
    refine AW.rgs [.no, .no] [4] [] (P := True) (l' := [(4, iV (((List.getD l 1 0) * 256) + (List.getD l 0 0)))]) (g' := []) (nx' := 0) (by kernel_rfl) trivial ?_
    refine AW.ret ?_
    exact EndP.of (.inr rfl) [] (P := (((sgn 32768 ((List.getD l 0 0) + ((List.getD l 1 0) * 256))) : Int) = (((List.getD l 1 0) * 256) + (List.getD l 0 0)))) (by kernel_rfl) (by first | rfl | omega | (unfold sgn; split <;> omega))

set_option maxHeartbeats 4000000 in
set_option maxRecDepth 100000 in
theorem K_int3 (l : List Int) (hn : List.length l = 2) (hb : Byt l) : Fun 32 [.c (.d (D.sl (dI .u8 l) 2)), .c (.d (D.lit (.bool true)))] (toG []) 0 (iV (sgn 32768 ((List.getD l 1 0) + ((List.getD l 0 0) * 256)))) (toG []) 0 := by
  refine Fun.mk (n := 46) Tryd.func32 rfl rfl (Nat.le_of_ble_eq_true rfl) ?_
  intro cx hcx
  refine AW.rgs [.no] [0, 1] [] (P := True) (l' := [(0, .e (.c (.d (D.sl (dI .u8 l) 2)))), (1, .e (.c (.d (D.lit (.bool true)))))]) (g' := []) (nx' := 0) (by kernel_rfl) trivial ?_
  refine AW.rgs [.no] [0, 1, 5] [] (P := True) (l' := [(0, .e (.c (.d (D.sl (dI .u8 l) 2)))), (1, .e (.c (.d (D.lit (.bool true))))), (5, iV 0)]) (g' := []) (nx' := 0) (by kernel_rfl) trivial ?_
  refine AW.seq ?_
  refine AW.rgs [.no, .no, .no] [0, 1, 5, 10, 11] [] (P := True) (l' := [(0, .e (.c (.d (D.sl (dI .u8 l) 2)))), (1, .e (.c (.d (D.lit (.bool true))))), (5, iV 0), (10, iV 2), (11, iV 0)]) (g' := []) (nx' := 0) (by kernel_rfl) trivial ?_
  refine AW.block ?_
  refine AW.rounds 3 ?_
  refine AWr.s ?_
  refine AW.rgs [.b true] [0, 1, 5, 10, 11, 12] [] (P := (((0 : Int) < 2))) (l' := [(0, .e (.c (.d (D.sl (dI .u8 l) 2)))), (1, .e (.c (.d (D.lit (.bool true))))), (5, iV 0), (10, iV 2), (11, iV 0), (12, .e (.c (.d (D.lit (.bool true)))))]) (g' := []) (nx' := 0) (by kernel_rfl) (by omega) ?_
  refine AW.seq ?_
  refine AW.cond_t (.tmp (Look.of rfl)) ?_
  refine AW.skip ?_
  refine AW.seq ?_
  refine AW.block ?_
  refine AW.rgs [.no, .no] [0, 1, 5, 6, 10, 11] [] (P := True) (l' := [(0, .e (.c (.d (D.sl (dI .u8 l) 2)))), (1, .e (.c (.d (D.lit (.bool true))))), (5, iV 0), (6, iV 0), (10, iV 2), (11, iV 0)]) (g' := []) (nx' := 0) (by kernel_rfl) trivial ?_
  have hx1 : 0 ≤ (List.getD l 1 0) ∧ (List.getD l 1 0) ≤ 255 := hb.at 1 (by omega)
  refine AW.rgs [.no, .no, .no, .w, .no, .w, .n 1, .d (D.lit (.int .u8 (List.getD l 1 0))), .no] [0, 1, 5, 6, 7, 10, 11] [] (P := ((-9223372036854775808) ≤ (1 : Int) ∧ (1 : Int) ≤ 9223372036854775807) ∧ ((-9223372036854775808) ≤ (1 : Int) ∧ (1 : Int) ≤ 9223372036854775807) ∧ ((1 : Int) = 1) ∧ ((1 : Nat) < 2) ∧ ((List.drop 1 (dI .u8 l))[0]? = some (D.lit (.int .u8 (List.getD l 1 0))))) (l' := [(0, .e (.c (.d (D.sl (dI .u8 l) 2)))), (1, .e (.c (.d (D.lit (.bool true))))), (5, iV 0), (6, iV 0), (7, .e (.c (.d (D.lit (.int .u8 (List.getD l 1 0)))))), (10, iV 2), (11, iV 0)]) (g' := []) (nx' := 0) (by kernel_rfl) ⟨⟨by omega, by omega⟩, ⟨by omega, by omega⟩, rfl, (by omega), (dI_at _ _ _ (by first | omega | rfl | (rw [dI_len]; omega) | (simp [dI_len] <;> omega)))⟩ ?_
  refine AW.seq ?_
  refine AW.rgs [.no] [0, 1, 5, 6, 7, 10, 11, 22] [] (P := True) (l' := [(0, .e (.c (.d (D.sl (dI .u8 l) 2)))), (1, .e (.c (.d (D.lit (.bool true))))), (5, iV 0), (6, iV 0), (7, .e (.c (.d (D.lit (.int .u8 (List.getD l 1 0)))))), (10, iV 2), (11, iV 0), (22, .e (.c (.d (D.lit (.bool true)))))]) (g' := []) (nx' := 0) (by kernel_rfl) trivial ?_
  refine AW.cond_t (.tmp (Look.of rfl)) ?_
  have hx2 : 0 ≤ (List.getD l 0 0) ∧ (List.getD l 0 0) ≤ 255 := hb.at 0 (by omega)
  refine AW.rg [.no, .no, .n 0, .d (D.lit (.int .u8 (List.getD l 0 0))), .no] [0, 1, 5, 7, 10, 11] [] (P := ((0 : Int) = 0) ∧ ((0 : Nat) < 2) ∧ ((List.drop 0 (dI .u8 l))[0]? = some (D.lit (.int .u8 (List.getD l 0 0))))) (l' := [(0, .e (.c (.d (D.sl (dI .u8 l) 2)))), (1, .e (.c (.d (D.lit (.bool true))))), (5, iV 0), (7, .e (.c (.d (D.lit (.int .u8 (List.getD l 0 0)))))), (10, iV 2), (11, iV 0)]) (g' := []) (nx' := 0) (by kernel_rfl) ⟨rfl, (by omega), (dI_at _ _ _ (by first | omega | rfl | (rw [dI_len]; omega) | (simp [dI_len] <;> omega)))⟩ ?_
  refine AW.rg [.no, .n 8, .no, .w, .i (List.getD l 0 0), .no] [0, 1, 5, 10, 11] [] (P := ((8 : Int) = 8) ∧ ((8 : Nat) ≤ 64) ∧ ((-9223372036854775808) ≤ (0 : Int) ∧ (0 : Int) ≤ 9223372036854775807) ∧ ((-9223372036854775808) ≤ (List.getD l 0 0) ∧ (List.getD l 0 0) ≤ 9223372036854775807) ∧ (bitsI .or .i64 0 (List.getD l 0 0) = (List.getD l 0 0))) (l' := [(0, .e (.c (.d (D.sl (dI .u8 l) 2)))), (1, .e (.c (.d (D.lit (.bool true))))), (5, iV (List.getD l 0 0)), (10, iV 2), (11, iV 0)]) (g' := []) (nx' := 0) (by kernel_rfl) ⟨rfl, (by omega), ⟨by omega, by omega⟩, ⟨by omega, by omega⟩, (or_z .i64 (by simp) (by omega)).1⟩ ?_
  refine AW.rg [.w, .no] [0, 1, 5, 10, 11] [] (P := ((-9223372036854775808) ≤ (1 : Int) ∧ (1 : Int) ≤ 9223372036854775807)) (l' := [(0, .e (.c (.d (D.sl (dI .u8 l) 2)))), (1, .e (.c (.d (D.lit (.bool true))))), (5, iV (List.getD l 0 0)), (10, iV 2), (11, iV 1)]) (g' := []) (nx' := 0) (by kernel_rfl) ⟨by omega, by omega⟩ ?_
  refine AWr.s ?_
  refine AW.rgs [.b true] [0, 1, 5, 10, 11, 12] [] (P := (((1 : Int) < 2))) (l' := [(0, .e (.c (.d (D.sl (dI .u8 l) 2)))), (1, .e (.c (.d (D.lit (.bool true))))), (5, iV (List.getD l 0 0)), (10, iV 2), (11, iV 1), (12, .e (.c (.d (D.lit (.bool true)))))]) (g' := []) (nx' := 0) (by kernel_rfl) (by omega) ?_
  refine AW.seq ?_
  refine AW.cond_t (.tmp (Look.of rfl)) ?_
  refine AW.skip ?_
  refine AW.seq ?_
  refine AW.block ?_
  refine AW.rgs [.no, .no] [0, 1, 5, 6, 10, 11] [] (P := True) (l' := [(0, .e (.c (.d (D.sl (dI .u8 l) 2)))), (1, .e (.c (.d (D.lit (.bool true))))), (5, iV (List.getD l 0 0)), (6, iV 1), (10, iV 2), (11, iV 1)]) (g' := []) (nx' := 0) (by kernel_rfl) trivial ?_
  have hx3 : 0 ≤ (List.getD l 0 0) ∧ (List.getD l 0 0) ≤ 255 := hb.at 0 (by omega)
  refine AW.rgs [.no, .no, .no, .w, .no, .w, .n 0, .d (D.lit (.int .u8 (List.getD l 0 0))), .no] [0, 1, 5, 6, 7, 10, 11] [] (P := ((-9223372036854775808) ≤ (1 : Int) ∧ (1 : Int) ≤ 9223372036854775807) ∧ ((-9223372036854775808) ≤ (0 : Int) ∧ (0 : Int) ≤ 9223372036854775807) ∧ ((0 : Int) = 0) ∧ ((0 : Nat) < 2) ∧ ((List.drop 0 (dI .u8 l))[0]? = some (D.lit (.int .u8 (List.getD l 0 0))))) (l' := [(0, .e (.c (.d (D.sl (dI .u8 l) 2)))), (1, .e (.c (.d (D.lit (.bool true))))), (5, iV (List.getD l 0 0)), (6, iV 1), (7, .e (.c (.d (D.lit (.int .u8 (List.getD l 0 0)))))), (10, iV 2), (11, iV 1)]) (g' := []) (nx' := 0) (by kernel_rfl) ⟨⟨by omega, by omega⟩, ⟨by omega, by omega⟩, rfl, (by omega), (dI_at _ _ _ (by first | omega | rfl | (rw [dI_len]; omega) | (simp [dI_len] <;> omega)))⟩ ?_
  refine AW.seq ?_
  refine AW.rgs [.no] [0, 1, 5, 6, 7, 10, 11, 22] [] (P := True) (l' := [(0, .e (.c (.d (D.sl (dI .u8 l) 2)))), (1, .e (.c (.d (D.lit (.bool true))))), (5, iV (List.getD l 0 0)), (6, iV 1), (7, .e (.c (.d (D.lit (.int .u8 (List.getD l 0 0)))))), (10, iV 2), (11, iV 1), (22, .e (.c (.d (D.lit (.bool true)))))]) (g' := []) (nx' := 0) (by kernel_rfl) trivial ?_
  refine AW.cond_t (.tmp (Look.of rfl)) ?_
  have hx4 : 0 ≤ (List.getD l 1 0) ∧ (List.getD l 1 0) ≤ 255 := hb.at 1 (by omega)
  refine AW.rg [.no, .no, .n 1, .d (D.lit (.int .u8 (List.getD l 1 0))), .no] [0, 1, 5, 7, 10, 11] [] (P := ((1 : Int) = 1) ∧ ((1 : Nat) < 2) ∧ ((List.drop 1 (dI .u8 l))[0]? = some (D.lit (.int .u8 (List.getD l 1 0))))) (l' := [(0, .e (.c (.d (D.sl (dI .u8 l) 2)))), (1, .e (.c (.d (D.lit (.bool true))))), (5, iV (List.getD l 0 0)), (7, .e (.c (.d (D.lit (.int .u8 (List.getD l 1 0)))))), (10, iV 2), (11, iV 1)]) (g' := []) (nx' := 0) (by kernel_rfl) ⟨rfl, (by omega), (dI_at _ _ _ (by first | omega | rfl | (rw [dI_len]; omega) | (simp [dI_len] <;> omega)))⟩ ?_
  refine AW.rg [.no, .n 8, .no, .w, .i (((List.getD l 0 0) * 256) + (List.getD l 1 0)), .no] [0, 1, 5, 10, 11] [] (P := ((8 : Int) = 8) ∧ ((8 : Nat) ≤ 64) ∧ ((-9223372036854775808) ≤ ((List.getD l 0 0) * 256) ∧ ((List.getD l 0 0) * 256) ≤ 9223372036854775807) ∧ ((-9223372036854775808) ≤ (List.getD l 1 0) ∧ (List.getD l 1 0) ≤ 9223372036854775807) ∧ (bitsI .or .i64 ((List.getD l 0 0) * 256) (List.getD l 1 0) = (((List.getD l 0 0) * 256) + (List.getD l 1 0)))) (l' := [(0, .e (.c (.d (D.sl (dI .u8 l) 2)))), (1, .e (.c (.d (D.lit (.bool true))))), (5, iV (((List.getD l 0 0) * 256) + (List.getD l 1 0))), (10, iV 2), (11, iV 1)]) (g' := []) (nx' := 0) (by kernel_rfl) ⟨rfl, (by omega), ⟨by omega, by omega⟩, ⟨by omega, by omega⟩, (or_hi (by simp) (i := 8) 256 (by decide) (by omega) (by omega) (by omega))⟩ ?_
  refine AW.rg [.w, .no] [0, 1, 5, 10, 11] [] (P := ((-9223372036854775808) ≤ (2 : Int) ∧ (2 : Int) ≤ 9223372036854775807)) (l' := [(0, .e (.c (.d (D.sl (dI .u8 l) 2)))), (1, .e (.c (.d (D.lit (.bool true))))), (5, iV (((List.getD l 0 0) * 256) + (List.getD l 1 0))), (10, iV 2), (11, iV 2)]) (g' := []) (nx' := 0) (by kernel_rfl) ⟨by omega, by omega⟩ ?_
  refine AWr.s ?_
  refine AW.rgs [.b false] [0, 1, 5, 10, 11, 12] [] (P := (¬ ((2 : Int) < 2))) (l' := [(0, .e (.c (.d (D.sl (dI .u8 l) 2)))), (1, .e (.c (.d (D.lit (.bool true))))), (5, iV (((List.getD l 0 0) * 256) + (List.getD l 1 0))), (10, iV 2), (11, iV 2), (12, .e (.c (.d (D.lit (.bool false)))))]) (g' := []) (nx' := 0) (by kernel_rfl) (by omega) ?_
  refine AW.seq ?_
  refine AW.cond_f (.tmp (Look.of rfl)) ?_
  refine AW.exit ?_
  refine AW.seq ?_
  refine AW.rgs [.no, .no, .w, .w, .n 15, .no] [5, 8] [] (P := ((-9223372036854775808) ≤ (16 : Int) ∧ (16 : Int) ≤ 9223372036854775807) ∧ ((-9223372036854775808) ≤ (15 : Int) ∧ (15 : Int) ≤ 9223372036854775807) ∧ ((15 : Int) = 15) ∧ ((15 : Nat) ≤ 64) ∧ ((-9223372036854775808) ≤ (32768 : Int) ∧ (32768 : Int) ≤ 9223372036854775807)) (l' := [(5, iV (((List.getD l 0 0) * 256) + (List.getD l 1 0))), (8, iV 32768)]) (g' := []) (nx' := 0) (by kernel_rfl) ⟨⟨by omega, by omega⟩, ⟨by omega, by omega⟩, rfl, (by omega), ⟨by omega, by omega⟩⟩ ?_
  by_cases hx5 : ((32768 : Int) ≤ (((List.getD l 0 0) * 256) + (List.getD l 1 0)))
  · refine AW.rgs [.no, .no, .b true] [5, 8, 40] [] (P := (((32768 : Int) ≤ (((List.getD l 0 0) * 256) + (List.getD l 1 0))))) (l' := [(5, iV (((List.getD l 0 0) * 256) + (List.getD l 1 0))), (8, iV 32768), (40, .e (.c (.d (D.lit (.bool true)))))]) (g' := []) (nx' := 0) (by kernel_rfl) (by omega) ?_
    refine AW.cond_t (.tmp (Look.of rfl)) ?_
    refine AW.rg [.no, .no, .w, .w, .no] [5] [] (P := ((-9223372036854775808) ≤ (65536 : Int) ∧ (65536 : Int) ≤ 9223372036854775807) ∧ ((-9223372036854775808) ≤ ((((List.getD l 0 0) * 256) + (List.getD l 1 0)) - 65536) ∧ ((((List.getD l 0 0) * 256) + (List.getD l 1 0)) - 65536) ≤ 9223372036854775807)) (l' := [(5, iV ((((List.getD l 0 0) * 256) + (List.getD l 1 0)) - 65536))]) (g' := []) (nx' := 0) (by kernel_rfl) ⟨⟨by omega, by omega⟩, ⟨by omega, by omega⟩⟩ ?_
    refine AW.rgs [.no, .no] [4] [] (P := True) (l' := [(4, iV ((((List.getD l 0 0) * 256) + (List.getD l 1 0)) - 65536))]) (g' := []) (nx' := 0) (by kernel_rfl) trivial ?_
    refine AW.ret ?_
    exact EndP.of (.inr rfl) [] (P := (((sgn 32768 ((List.getD l 1 0) + ((List.getD l 0 0) * 256))) : Int) = ((((List.getD l 0 0) * 256) + (List.getD l 1 0)) - 65536))) (by kernel_rfl) (by first | rfl | omega | (unfold sgn; split <;> omega))
  · refine AW.rgs [.no, .no, .b false] [5, 8, 40] [] (P := (¬ ((32768 : Int) ≤ (((List.getD l 0 0) * 256) + (List.getD l 1 0))))) (l' := [(5, iV (((List.getD l 0 0) * 256) + (List.getD l 1 0))), (8, iV 32768), (40, .e (.c (.d (D.lit (.bool false)))))]) (g' := []) (nx' := 0) (by kernel_rfl) (by omega) ?_
    refine AW.cond_f (.tmp (Look.of rfl)) ?_
    refine AW.skip ?_
    refine AW.rgs [.no, .no] [4] [] (P := True) (l' := [(4, iV (((List.getD l 0 0) * 256) + (List.getD l 1 0)))]) (g' := []) (nx' := 0) (by kernel_rfl) trivial ?_
    refine AW.ret ?_
    exact EndP.of (.inr rfl) [] (P := (((sgn 32768 ((List.getD l 1 0) + ((List.getD l 0 0) * 256))) : Int) = (((List.getD l 0 0) * 256) + (List.getD l 1 0)))) (by kernel_rfl) (by first | rfl | omega | (unfold sgn; split <;> omega))

set_option maxHeartbeats 4000000 in
set_option maxRecDepth 100000 in
theorem K_int4 (l : List Int) (hn : List.length l = 3) (hb : Byt l) : Fun 32 [.c (.d (D.sl (dI .u8 l) 3)), .c (.d (D.lit (.bool false)))] (toG []) 0 (iV (sgn 8388608 (((List.getD l 0 0) + ((List.getD l 1 0) * 256)) + ((List.getD l 2 0) * 65536)))) (toG []) 0 := by
  refine Fun.mk (n := 46) Tryd.func32 rfl rfl (Nat.le_of_ble_eq_true rfl) ?_
  intro cx hcx
  refine AW.rgs [.no] [0, 1] [] (P := True) (l' := [(0, .e (.c (.d (D.sl (dI .u8 l) 3)))), (1, .e (.c (.d (D.lit (.bool false)))))]) (g' := []) (nx' := 0) (by kernel_rfl) trivial ?_
  refine AW.rgs [.no] [0, 1, 5] [] (P := True) (l' := [(0, .e (.c (.d (D.sl (dI .u8 l) 3)))), (1, .e (.c (.d (D.lit (.bool false))))), (5, iV 0)]) (g' := []) (nx' := 0) (by kernel_rfl) trivial ?_
  refine AW.seq ?_
  refine AW.rgs [.no, .no, .no] [0, 1, 5, 10, 11] [] (P := True) (l' := [(0, .e (.c (.d (D.sl (dI .u8 l) 3)))), (1, .e (.c (.d (D.lit (.bool false))))), (5, iV 0), (10, iV 3), (11, iV 0)]) (g' := []) (nx' := 0) (by kernel_rfl) trivial ?_
  refine AW.block ?_
  refine AW.rounds 4 ?_
  refine AWr.s ?_
  refine AW.rgs [.b true] [0, 1, 5, 10, 11, 12] [] (P := (((0 : Int) < 3))) (l' := [(0, .e (.c (.d (D.sl (dI .u8 l) 3)))), (1, .e (.c (.d (D.lit (.bool false))))), (5, iV 0), (10, iV 3), (11, iV 0), (12, .e (.c (.d (D.lit (.bool true)))))]) (g' := []) (nx' := 0) (by kernel_rfl) (by omega) ?_
  refine AW.seq ?_
  refine AW.cond_t (.tmp (Look.of rfl)) ?_
  refine AW.skip ?_
  refine AW.seq ?_
  refine AW.block ?_
  refine AW.rgs [.no, .no] [0, 1, 5, 6, 10, 11] [] (P := True) (l' := [(0, .e (.c (.d (D.sl (dI .u8 l) 3)))), (1, .e (.c (.d (D.lit (.bool false))))), (5, iV 0), (6, iV 0), (10, iV 3), (11, iV 0)]) (g' := []) (nx' := 0) (by kernel_rfl) trivial ?_
  have hx1 : 0 ≤ (List.getD l 2 0) ∧ (List.getD l 2 0) ≤ 255 := hb.at 2 (by omega)
  refine AW.rgs [.no, .no, .no, .w, .no, .w, .n 2, .d (D.lit (.int .u8 (List.getD l 2 0))), .no] [0, 1, 5, 6, 7, 10, 11] [] (P := ((-9223372036854775808) ≤ (2 : Int) ∧ (2 : Int) ≤ 9223372036854775807) ∧ ((-9223372036854775808) ≤ (2 : Int) ∧ (2 : Int) ≤ 9223372036854775807) ∧ ((2 : Int) = 2) ∧ ((2 : Nat) < 3) ∧ ((List.drop 2 (dI .u8 l))[0]? = some (D.lit (.int .u8 (List.getD l 2 0))))) (l' := [(0, .e (.c (.d (D.sl (dI .u8 l) 3)))), (1, .e (.c (.d (D.lit (.bool false))))), (5, iV 0), (6, iV 0), (7, .e (.c (.d (D.lit (.int .u8 (List.getD l 2 0)))))), (10, iV 3), (11, iV 0)]) (g' := []) (nx' := 0) (by kernel_rfl) ⟨⟨by omega, by omega⟩, ⟨by omega, by omega⟩, rfl, (by omega), (dI_at _ _ _ (by first | omega | rfl | (rw [dI_len]; omega) | (simp [dI_len] <;> omega)))⟩ ?_
  refine AW.seq ?_
  refine AW.rgs [.no] [0, 1, 5, 6, 7, 10, 11, 22] [] (P := True) (l' := [(0, .e (.c (.d (D.sl (dI .u8 l) 3)))), (1, .e (.c (.d (D.lit (.bool false))))), (5, iV 0), (6, iV 0), (7, .e (.c (.d (D.lit (.int .u8 (List.getD l 2 0)))))), (10, iV 3), (11, iV 0), (22, .e (.c (.d (D.lit (.bool false)))))]) (g' := []) (nx' := 0) (by kernel_rfl) trivial ?_
  refine AW.cond_f (.tmp (Look.of rfl)) ?_
  refine AW.skip ?_
  refine AW.rg [.no, .n 8, .no, .w, .i (List.getD l 2 0), .no] [0, 1, 5, 10, 11] [] (P := ((8 : Int) = 8) ∧ ((8 : Nat) ≤ 64) ∧ ((-9223372036854775808) ≤ (0 : Int) ∧ (0 : Int) ≤ 9223372036854775807) ∧ ((-9223372036854775808) ≤ (List.getD l 2 0) ∧ (List.getD l 2 0) ≤ 9223372036854775807) ∧ (bitsI .or .i64 0 (List.getD l 2 0) = (List.getD l 2 0))) (l' := [(0, .e (.c (.d (D.sl (dI .u8 l) 3)))), (1, .e (.c (.d (D.lit (.bool false))))), (5, iV (List.getD l 2 0)), (10, iV 3), (11, iV 0)]) (g' := []) (nx' := 0) (by kernel_rfl) ⟨rfl, (by omega), ⟨by omega, by omega⟩, ⟨by omega, by omega⟩, (or_z .i64 (by simp) (by omega)).1⟩ ?_
  refine AW.rg [.w, .no] [0, 1, 5, 10, 11] [] (P := ((-9223372036854775808) ≤ (1 : Int) ∧ (1 : Int) ≤ 9223372036854775807)) (l' := [(0, .e (.c (.d (D.sl (dI .u8 l) 3)))), (1, .e (.c (.d (D.lit (.bool false))))), (5, iV (List.getD l 2 0)), (10, iV 3), (11, iV 1)]) (g' := []) (nx' := 0) (by kernel_rfl) ⟨by omega, by omega⟩ ?_
  refine AWr.s ?_
  refine AW.rgs [.b true] [0, 1, 5, 10, 11, 12] [] (P := (((1 : Int) < 3))) (l' := [(0, .e (.c (.d (D.sl (dI .u8 l) 3)))), (1, .e (.c (.d (D.lit (.bool false))))), (5, iV (List.getD l 2 0)), (10, iV 3), (11, iV 1), (12, .e (.c (.d (D.lit (.bool true)))))]) (g' := []) (nx' := 0) (by kernel_rfl) (by omega) ?_
  refine AW.seq ?_
  refine AW.cond_t (.tmp (Look.of rfl)) ?_
  refine AW.skip ?_
  refine AW.seq ?_
  refine AW.block ?_
  refine AW.rgs [.no, .no] [0, 1, 5, 6, 10, 11] [] (P := True) (l' := [(0, .e (.c (.d (D.sl (dI .u8 l) 3)))), (1, .e (.c (.d (D.lit (.bool false))))), (5, iV (List.getD l 2 0)), (6, iV 1), (10, iV 3), (11, iV 1)]) (g' := []) (nx' := 0) (by kernel_rfl) trivial ?_
  have hx2 : 0 ≤ (List.getD l 1 0) ∧ (List.getD l 1 0) ≤ 255 := hb.at 1 (by omega)
  refine AW.rgs [.no, .no, .no, .w, .no, .w, .n 1, .d (D.lit (.int .u8 (List.getD l 1 0))), .no] [0, 1, 5, 6, 7, 10, 11] [] (P := ((-9223372036854775808) ≤ (2 : Int) ∧ (2 : Int) ≤ 9223372036854775807) ∧ ((-9223372036854775808) ≤ (1 : Int) ∧ (1 : Int) ≤ 9223372036854775807) ∧ ((1 : Int) = 1) ∧ ((1 : Nat) < 3) ∧ ((List.drop 1 (dI .u8 l))[0]? = some (D.lit (.int .u8 (List.getD l 1 0))))) (l' := [(0, .e (.c (.d (D.sl (dI .u8 l) 3)))), (1, .e (.c (.d (D.lit (.bool false))))), (5, iV (List.getD l 2 0)), (6, iV 1), (7, .e (.c (.d (D.lit (.int .u8 (List.getD l 1 0)))))), (10, iV 3), (11, iV 1)]) (g' := []) (nx' := 0) (by kernel_rfl) ⟨⟨by omega, by omega⟩, ⟨by omega, by omega⟩, rfl, (by omega), (dI_at _ _ _ (by first | omega | rfl | (rw [dI_len]; omega) | (simp [dI_len] <;> omega)))⟩ ?_
  refine AW.seq ?_
  refine AW.rgs [.no] [0, 1, 5, 6, 7, 10, 11, 22] [] (P := True) (l' := [(0, .e (.c (.d (D.sl (dI .u8 l) 3)))), (1, .e (.c (.d (D.lit (.bool false))))), (5, iV (List.getD l 2 0)), (6, iV 1), (7, .e (.c (.d (D.lit (.int .u8 (List.getD l 1 0)))))), (10, iV 3), (11, iV 1), (22, .e (.c (.d (D.lit (.bool false)))))]) (g' := []) (nx' := 0) (by kernel_rfl) trivial ?_
  refine AW.cond_f (.tmp (Look.of rfl)) ?_
  refine AW.skip ?_
  refine AW.rg [.no, .n 8, .no, .w, .i (((List.getD l 2 0) * 256) + (List.getD l 1 0)), .no] [0, 1, 5, 10, 11] [] (P := ((8 : Int) = 8) ∧ ((8 : Nat) ≤ 64) ∧ ((-9223372036854775808) ≤ ((List.getD l 2 0) * 256) ∧ ((List.getD l 2 0) * 256) ≤ 9223372036854775807) ∧ ((-9223372036854775808) ≤ (List.getD l 1 0) ∧ (List.getD l 1 0) ≤ 9223372036854775807) ∧ (bitsI .or .i64 ((List.getD l 2 0) * 256) (List.getD l 1 0) = (((List.getD l 2 0) * 256) + (List.getD l 1 0)))) (l' := [(0, .e (.c (.d (D.sl (dI .u8 l) 3)))), (1, .e (.c (.d (D.lit (.bool false))))), (5, iV (((List.getD l 2 0) * 256) + (List.getD l 1 0))), (10, iV 3), (11, iV 1)]) (g' := []) (nx' := 0) (by kernel_rfl) ⟨rfl, (by omega), ⟨by omega, by omega⟩, ⟨by omega, by omega⟩, (or_hi (by simp) (i := 8) 256 (by decide) (by omega) (by omega) (by omega))⟩ ?_
  refine AW.rg [.w, .no] [0, 1, 5, 10, 11] [] (P := ((-9223372036854775808) ≤ (2 : Int) ∧ (2 : Int) ≤ 9223372036854775807)) (l' := [(0, .e (.c (.d (D.sl (dI .u8 l) 3)))), (1, .e (.c (.d (D.lit (.bool false))))), (5, iV (((List.getD l 2 0) * 256) + (List.getD l 1 0))), (10, iV 3), (11, iV 2)]) (g' := []) (nx' := 0) (by kernel_rfl) ⟨by omega, by omega⟩ ?_
  refine AWr.s ?_
  refine AW.rgs [.b true] [0, 1, 5, 10, 11, 12] [] (P := (((2 : Int) < 3))) (l' := [(0, .e (.c (.d (D.sl (dI .u8 l) 3)))), (1, .e (.c (.d (D.lit (.bool false))))), (5, iV (((List.getD l 2 0) * 256) + (List.getD l 1 0))), (10, iV 3), (11, iV 2), (12, .e (.c (.d (D.lit (.bool true)))))]) (g' := []) (nx' := 0) (by kernel_rfl) (by omega) ?_
  refine AW.seq ?_
  refine AW.cond_t (.tmp (Look.of rfl)) ?_
  refine AW.skip ?_
  refine AW.seq ?_
  refine AW.block ?_
  refine AW.rgs [.no, .no] [0, 1, 5, 6, 10, 11] [] (P := True) (l' := [(0, .e (.c (.d (D.sl (dI .u8 l) 3)))), (1, .e (.c (.d (D.lit (.bool false))))), (5, iV (((List.getD l 2 0) * 256) + (List.getD l 1 0))), (6, iV 2), (10, iV 3), (11, iV 2)]) (g' := []) (nx' := 0) (by kernel_rfl) trivial ?_
  have hx3 : 0 ≤ (List.getD l 0 0) ∧ (List.getD l 0 0) ≤ 255 := hb.at 0 (by omega)
  refine AW.rgs [.no, .no, .no, .w, .no, .w, .n 0, .d (D.lit (.int .u8 (List.getD l 0 0))), .no] [0, 1, 5, 6, 7, 10, 11] [] (P := ((-9223372036854775808) ≤ (2 : Int) ∧ (2 : Int) ≤ 9223372036854775807) ∧ ((-9223372036854775808) ≤ (0 : Int) ∧ (0 : Int) ≤ 9223372036854775807) ∧ ((0 : Int) = 0) ∧ ((0 : Nat) < 3) ∧ ((List.drop 0 (dI .u8 l))[0]? = some (D.lit (.int .u8 (List.getD l 0 0))))) (l' := [(0, .e (.c (.d (D.sl (dI .u8 l) 3)))), (1, .e (.c (.d (D.lit (.bool false))))), (5, iV (((List.getD l 2 0) * 256) + (List.getD l 1 0))), (6, iV 2), (7, .e (.c (.d (D.lit (.int .u8 (List.getD l 0 0)))))), (10, iV 3), (11, iV 2)]) (g' := []) (nx' := 0) (by kernel_rfl) ⟨⟨by omega, by omega⟩, ⟨by omega, by omega⟩, rfl, (by omega), (dI_at _ _ _ (by first | omega | rfl | (rw [dI_len]; omega) | (simp [dI_len] <;> omega)))⟩ ?_
  refine AW.seq ?_
  refine AW.rgs [.no] [0, 1, 5, 6, 7, 10, 11, 22] [] (P := True) (l' := [(0, .e (.c (.d (D.sl (dI .u8 l) 3)))), (1, .e (.c (.d (D.lit (.bool false))))), (5, iV (((List.getD l 2 0) * 256) + (List.getD l 1 0))), (6, iV 2), (7, .e (.c (.d (D.lit (.int .u8 (List.getD l 0 0)))))), (10, iV 3), (11, iV 2), (22, .e (.c (.d (D.lit (.bool false)))))]) (g' := []) (nx' := 0) (by kernel_rfl) trivial ?_
  refine AW.cond_f (.tmp (Look.of rfl)) ?_
  refine AW.skip ?_
  refine AW.rg [.no, .n 8, .no, .w, .i (((((List.getD l 2 0) * 256) + (List.getD l 1 0)) * 256) + (List.getD l 0 0)), .no] [0, 1, 5, 10, 11] [] (P := ((8 : Int) = 8) ∧ ((8 : Nat) ≤ 64) ∧ ((-9223372036854775808) ≤ ((((List.getD l 2 0) * 256) + (List.getD l 1 0)) * 256) ∧ ((((List.getD l 2 0) * 256) + (List.getD l 1 0)) * 256) ≤ 9223372036854775807) ∧ ((-9223372036854775808) ≤ (List.getD l 0 0) ∧ (List.getD l 0 0) ≤ 9223372036854775807) ∧ (bitsI .or .i64 ((((List.getD l 2 0) * 256) + (List.getD l 1 0)) * 256) (List.getD l 0 0) = (((((List.getD l 2 0) * 256) + (List.getD l 1 0)) * 256) + (List.getD l 0 0)))) (l' := [(0, .e (.c (.d (D.sl (dI .u8 l) 3)))), (1, .e (.c (.d (D.lit (.bool false))))), (5, iV (((((List.getD l 2 0) * 256) + (List.getD l 1 0)) * 256) + (List.getD l 0 0))), (10, iV 3), (11, iV 2)]) (g' := []) (nx' := 0) (by kernel_rfl) ⟨rfl, (by omega), ⟨by omega, by omega⟩, ⟨by omega, by omega⟩, (or_hi (by simp) (i := 8) 256 (by decide) (by omega) (by omega) (by omega))⟩ ?_
  refine AW.rg [.w, .no] [0, 1, 5, 10, 11] [] (P := ((-9223372036854775808) ≤ (3 : Int) ∧ (3 : Int) ≤ 9223372036854775807)) (l' := [(0, .e (.c (.d (D.sl (dI .u8 l) 3)))), (1, .e (.c (.d (D.lit (.bool false))))), (5, iV (((((List.getD l 2 0) * 256) + (List.getD l 1 0)) * 256) + (List.getD l 0 0))), (10, iV 3), (11, iV 3)]) (g' := []) (nx' := 0) (by kernel_rfl) ⟨by omega, by omega⟩ ?_
  refine AWr.s ?_
  refine AW.rgs [.b false] [0, 1, 5, 10, 11, 12] [] (P := (¬ ((3 : Int) < 3))) (l' := [(0, .e (.c (.d (D.sl (dI .u8 l) 3)))), (1, .e (.c (.d (D.lit (.bool false))))), (5, iV (((((List.getD l 2 0) * 256) + (List.getD l 1 0)) * 256) + (List.getD l 0 0))), (10, iV 3), (11, iV 3), (12, .e (.c (.d (D.lit (.bool false)))))]) (g' := []) (nx' := 0) (by kernel_rfl) (by omega) ?_
  refine AW.seq ?_
  refine AW.cond_f (.tmp (Look.of rfl)) ?_
  refine AW.exit ?_
  refine AW.seq ?_
  refine AW.rgs [.no, .no, .w, .w, .n 23, .no] [5, 8] [] (P := ((-9223372036854775808) ≤ (24 : Int) ∧ (24 : Int) ≤ 9223372036854775807) ∧ ((-9223372036854775808) ≤ (23 : Int) ∧ (23 : Int) ≤ 9223372036854775807) ∧ ((23 : Int) = 23) ∧ ((23 : Nat) ≤ 64) ∧ ((-9223372036854775808) ≤ (8388608 : Int) ∧ (8388608 : Int) ≤ 9223372036854775807)) (l' := [(5, iV (((((List.getD l 2 0) * 256) + (List.getD l 1 0)) * 256) + (List.getD l 0 0))), (8, iV 8388608)]) (g' := []) (nx' := 0) (by kernel_rfl) ⟨⟨by omega, by omega⟩, ⟨by omega, by omega⟩, rfl, (by omega), ⟨by omega, by omega⟩⟩ ?_
  by_cases hx4 : ((8388608 : Int) ≤ (((((List.getD l 2 0) * 256) + (List.getD l 1 0)) * 256) + (List.getD l 0 0)))
  · refine AW.rgs [.no, .no, .b true] [5, 8, 40] [] (P := (((8388608 : Int) ≤ (((((List.getD l 2 0) * 256) + (List.getD l 1 0)) * 256) + (List.getD l 0 0))))) (l' := [(5, iV (((((List.getD l 2 0) * 256) + (List.getD l 1 0)) * 256) + (List.getD l 0 0))), (8, iV 8388608), (40, .e (.c (.d (D.lit (.bool true)))))]) (g' := []) (nx' := 0) (by kernel_rfl) (by omega) ?_
    refine AW.cond_t (.tmp (Look.of rfl)) ?_
    refine AW.rg [.no, .no, .w, .w, .no] [5] [] (P := ((-9223372036854775808) ≤ (16777216 : Int) ∧ (16777216 : Int) ≤ 9223372036854775807) ∧ ((-9223372036854775808) ≤ ((((((List.getD l 2 0) * 256) + (List.getD l 1 0)) * 256) + (List.getD l 0 0)) - 16777216) ∧ ((((((List.getD l 2 0) * 256) + (List.getD l 1 0)) * 256) + (List.getD l 0 0)) - 16777216) ≤ 9223372036854775807)) (l' := [(5, iV ((((((List.getD l 2 0) * 256) + (List.getD l 1 0)) * 256) + (List.getD l 0 0)) - 16777216))]) (g' := []) (nx' := 0) (by kernel_rfl) ⟨⟨by omega, by omega⟩, ⟨by omega, by omega⟩⟩ ?_
    refine AW.rgs [.no, .no] [4] [] (P := True) (l' := [(4, iV ((((((List.getD l 2 0) * 256) + (List.getD l 1 0)) * 256) + (List.getD l 0 0)) - 16777216))]) (g' := []) (nx' := 0) (by kernel_rfl) trivial ?_
    refine AW.ret ?_
    exact EndP.of (.inr rfl) [] (P := (((sgn 8388608 (((List.getD l 0 0) + ((List.getD l 1 0) * 256)) + ((List.getD l 2 0) * 65536))) : Int) = ((((((List.getD l 2 0) * 256) + (List.getD l 1 0)) * 256) + (List.getD l 0 0)) - 16777216))) (by kernel_rfl) (by first | rfl | omega | (unfold sgn; split <;> omega))
  · refine AW.rgs [.no, .no, .b false] [5, 8, 40] [] (P := (¬ ((8388608 : Int) ≤ (((((List.getD l 2 0) * 256) + (List.getD l 1 0)) * 256) + (List.getD l 0 0))))) (l' := [(5, iV (((((List.getD l 2 0) * 256) + (List.getD l 1 0)) * 256) + (List.getD l 0 0))), (8, iV 8388608), (40, .e (.c (.d (D.lit (.bool false)))))]) (g' := []) (nx' := 0) (by kernel_rfl) (by omega) ?_
    refine AW.cond_f (.tmp (Look.of rfl)) ?_
    refine AW.skip ?_
    refine AW.rgs [.no, .no] [4] [] (P := True) (l' := [(4, iV (((((List.getD l 2 0) * 256) + (List.getD l 1 0)) * 256) + (List.getD l 0 0)))]) (g' := []) (nx' := 0) (by kernel_rfl) trivial ?_
    refine AW.ret ?_
    exact EndP.of (.inr rfl) [] (P := (((sgn 8388608 (((List.getD l 0 0) + ((List.getD l 1 0) * 256)) + ((List.getD l 2 0) * 65536))) : Int) = (((((List.getD l 2 0) * 256) + (List.getD l 1 0)) * 256) + (List.getD l 0 0)))) (by kernel_rfl) (by first | rfl | omega | (unfold sgn; split <;> omega))

set_option maxHeartbeats 4000000 in
set_option maxRecDepth 100000 in
theorem K_int5 (l : List Int) (hn : List.length l = 3) (hb : Byt l) : Fun 32 [.c (.d (D.sl (dI .u8 l) 3)), .c (.d (D.lit (.bool true)))] (toG []) 0 (iV (sgn 8388608 (((List.getD l 2 0) + ((List.getD l 1 0) * 256)) + ((List.getD l 0 0) * 65536)))) (toG []) 0 := by
  refine Fun.mk (n := 46) Tryd.func32 rfl rfl (Nat.le_of_ble_eq_true rfl) ?_
  intro cx hcx
  refine AW.rgs [.no] [0, 1] [] (P := True) (l' := [(0, .e (.c (.d (D.sl (dI .u8 l) 3)))), (1, .e (.c (.d (D.lit (.bool true)))))]) (g' := []) (nx' := 0) (by kernel_rfl) trivial ?_
  refine AW.rgs [.no] [0, 1, 5] [] (P := True) (l' := [(0, .e (.c (.d (D.sl (dI .u8 l) 3)))), (1, .e (.c (.d (D.lit (.bool true))))), (5, iV 0)]) (g' := []) (nx' := 0) (by kernel_rfl) trivial ?_
  refine AW.seq ?_
  refine AW.rgs [.no, .no, .no] [0, 1, 5, 10, 11] [] (P := True) (l' := [(0, .e (.c (.d (D.sl (dI .u8 l) 3)))), (1, .e (.c (.d (D.lit (.bool true))))), (5, iV 0), (10, iV 3), (11, iV 0)]) (g' := []) (nx' := 0) (by kernel_rfl) trivial ?_
  refine AW.block ?_
  refine AW.rounds 4 ?_
  refine AWr.s ?_
  refine AW.rgs [.b true] [0, 1, 5, 10, 11, 12] [] (P := (((0 : Int) < 3))) (l' := [(0, .e (.c (.d (D.sl (dI .u8 l) 3)))), (1, .e (.c (.d (D.lit (.bool true))))), (5, iV 0), (10, iV 3), (11, iV 0), (12, .e (.c (.d (D.lit (.bool true)))))]) (g' := []) (nx' := 0) (by kernel_rfl) (by omega) ?_
  refine AW.seq ?_
  refine AW.cond_t (.tmp (Look.of rfl)) ?_
  refine AW.skip ?_
  refine AW.seq ?_
  refine AW.block ?_
  refine AW.rgs [.no, .no] [0, 1, 5, 6, 10, 11] [] (P := True) (l' := [(0, .e (.c (.d (D.sl (dI .u8 l) 3)))), (1, .e (.c (.d (D.lit (.bool true))))), (5, iV 0), (6, iV 0), (10, iV 3), (11, iV 0)]) (g' := []) (nx' := 0) (by kernel_rfl) trivial ?_
  have hx1 : 0 ≤ (List.getD l 2 0) ∧ (List.getD l 2 0) ≤ 255 := hb.at 2 (by omega)
  refine AW.rgs [.no, .no, .no, .w, .no, .w, .n 2, .d (D.lit (.int .u8 (List.getD l 2 0))), .no] [0, 1, 5, 6, 7, 10, 11] [] (P := ((-9223372036854775808) ≤ (2 : Int) ∧ (2 : Int) ≤ 9223372036854775807) ∧ ((-9223372036854775808) ≤ (2 : Int) ∧ (2 : Int) ≤ 9223372036854775807) ∧ ((2 : Int) = 2) ∧ ((2 : Nat) < 3) ∧ ((List.drop 2 (dI .u8 l))[0]? = some (D.lit (.int .u8 (List.getD l 2 0))))) (l' := [(0, .e (.c (.d (D.sl (dI .u8 l) 3)))), (1, .e (.c (.d (D.lit (.bool true))))), (5, iV 0), (6, iV 0), (7, .e (.c (.d (D.lit (.int .u8 (List.getD l 2 0)))))), (10, iV 3), (11, iV 0)]) (g' := []) (nx' := 0) (by kernel_rfl) ⟨⟨by omega, by omega⟩, ⟨by omega, by omega⟩, rfl, (by omega), (dI_at _ _ _ (by first | omega | rfl | (rw [dI_len]; omega) | (simp [dI_len] <;> omega)))⟩ ?_
  refine AW.seq ?_
  refine AW.rgs [.no] [0, 1, 5, 6, 7, 10, 11, 22] [] (P := True) (l' := [(0, .e (.c (.d (D.sl (dI .u8 l) 3)))), (1, .e (.c (.d (D.lit (.bool true))))), (5, iV 0), (6, iV 0), (7, .e (.c (.d (D.lit (.int .u8 (List.getD l 2 0)))))), (10, iV 3), (11, iV 0), (22, .e (.c (.d (D.lit (.bool true)))))]) (g' := []) (nx' := 0) (by kernel_rfl) trivial ?_
  refine AW.cond_t (.tmp (Look.of rfl)) ?_
  have hx2 : 0 ≤ (List.getD l 0 0) ∧ (List.getD l 0 0) ≤ 255 := hb.at 0 (by omega)
  refine AW.rg [.no, .no, .n 0, .d (D.lit (.int .u8 (List.getD l 0 0))), .no] [0, 1, 5, 7, 10, 11] [] (P := ((0 : Int) = 0) ∧ ((0 : Nat) < 3) ∧ ((List.drop 0 (dI .u8 l))[0]? = some (D.lit (.int .u8 (List.getD l 0 0))))) (l' := [(0, .e (.c (.d (D.sl (dI .u8 l) 3)))), (1, .e (.c (.d (D.lit (.bool true))))), (5, iV 0), (7, .e (.c (.d (D.lit (.int .u8 (List.getD l 0 0)))))), (10, iV 3), (11, iV 0)]) (g' := []) (nx' := 0) (by kernel_rfl) ⟨rfl, (by omega), (dI_at _ _ _ (by first | omega | rfl | (rw [dI_len]; omega) | (simp [dI_len] <;> omega)))⟩ ?_
  refine AW.rg [.no, .n 8, .no, .w, .i (List.getD l 0 0), .no] [0, 1, 5, 10, 11] [] (P := ((8 : Int) = 8) ∧ ((8 : Nat) ≤ 64) ∧ ((-9223372036854775808) ≤ (0 : Int) ∧ (0 : Int) ≤ 9223372036854775807) ∧ ((-9223372036854775808) ≤ (List.getD l 0 0) ∧ (List.getD l 0 0) ≤ 9223372036854775807) ∧ (bitsI .or .i64 0 (List.getD l 0 0) = (List.getD l 0 0))) (l' := [(0, .e (.c (.d (D.sl (dI .u8 l) 3)))), (1, .e (.c (.d (D.lit (.bool true))))), (5, iV (List.getD l 0 0)), (10, iV 3), (11, iV 0)]) (g' := []) (nx' := 0) (by kernel_rfl) ⟨rfl, (by omega), ⟨by omega, by omega⟩, ⟨by omega, by omega⟩, (or_z .i64 (by simp) (by omega)).1⟩ ?_
  refine AW.rg [.w, .no] [0, 1, 5, 10, 11] [] (P := ((-9223372036854775808) ≤ (1 : Int) ∧ (1 : Int) ≤ 9223372036854775807)) (l' := [(0, .e (.c (.d (D.sl (dI .u8 l) 3)))), (1, .e (.c (.d (D.lit (.bool true))))), (5, iV (List.getD l 0 0)), (10, iV 3), (11, iV 1)]) (g' := []) (nx' := 0) (by kernel_rfl) ⟨by omega, by omega⟩ ?_
  refine AWr.s ?_
  refine AW.rgs [.b true] [0, 1, 5, 10, 11, 12] [] (P := (((1 : Int) < 3))) (l' := [(0, .e (.c (.d (D.sl (dI .u8 l) 3)))), (1, .e (.c (.d (D.lit (.bool true))))), (5, iV (List.getD l 0 0)), (10, iV 3), (11, iV 1), (12, .e (.c (.d (D.lit (.bool true)))))]) (g' := []) (nx' := 0) (by kernel_rfl) (by omega) ?_
  refine AW.seq ?_
  refine AW.cond_t (.tmp (Look.of rfl)) ?_
  refine AW.skip ?_
  refine AW.seq ?_
  refine AW.block ?_
  refine AW.rgs [.no, .no] [0, 1, 5, 6, 10, 11] [] (P := True) (l' := [(0, .e (.c (.d (D.sl (dI .u8 l) 3)))), (1, .e (.c (.d (D.lit (.bool true))))), (5, iV (List.getD l 0 0)), (6, iV 1), (10, iV 3), (11, iV 1)]) (g' := []) (nx' := 0) (by kernel_rfl) trivial ?_
  have hx3 : 0 ≤ (List.getD l 1 0) ∧ (List.getD l 1 0) ≤ 255 := hb.at 1 (by omega)
  refine AW.rgs [.no, .no, .no, .w, .no, .w, .n 1, .d (D.lit (.int .u8 (List.getD l 1 0))), .no] [0, 1, 5, 6, 7, 10, 11] [] (P := ((-9223372036854775808) ≤ (2 : Int) ∧ (2 : Int) ≤ 9223372036854775807) ∧ ((-9223372036854775808) ≤ (1 : Int) ∧ (1 : Int) ≤ 9223372036854775807) ∧ ((1 : Int) = 1) ∧ ((1 : Nat) < 3) ∧ ((List.drop 1 (dI .u8 l))[0]? = some (D.lit (.int .u8 (List.getD l 1 0))))) (l' := [(0, .e (.c (.d (D.sl (dI .u8 l) 3)))), (1, .e (.c (.d (D.lit (.bool true))))), (5, iV (List.getD l 0 0)), (6, iV 1), (7, .e (.c (.d (D.lit (.int .u8 (List.getD l 1 0)))))), (10, iV 3), (11, iV 1)]) (g' := []) (nx' := 0) (by kernel_rfl) ⟨⟨by omega, by omega⟩, ⟨by omega, by omega⟩, rfl, (by omega), (dI_at _ _ _ (by first | omega | rfl | (rw [dI_len]; omega) | (simp [dI_len] <;> omega)))⟩ ?_
  refine AW.seq ?_
  refine AW.rgs [.no] [0, 1, 5, 6, 7, 10, 11, 22] [] (P := True) (l' := [(0, .e (.c (.d (D.sl (dI .u8 l) 3)))), (1, .e (.c (.d (D.lit (.bool true))))), (5, iV (List.getD l 0 0)), (6, iV 1), (7, .e (.c (.d (D.lit (.int .u8 (List.getD l 1 0)))))), (10, iV 3), (11, iV 1), (22, .e (.c (.d (D.lit (.bool true)))))]) (g' := []) (nx' := 0) (by kernel_rfl) trivial ?_
  refine AW.cond_t (.tmp (Look.of rfl)) ?_
  have hx4 : 0 ≤ (List.getD l 1 0) ∧ (List.getD l 1 0) ≤ 255 := hb.at 1 (by omega)
  refine AW.rg [.no, .no, .n 1, .d (D.lit (.int .u8 (List.getD l 1 0))), .no] [0, 1, 5, 7, 10, 11] [] (P := ((1 : Int) = 1) ∧ ((1 : Nat) < 3) ∧ ((List.drop 1 (dI .u8 l))[0]? = some (D.lit (.int .u8 (List.getD l 1 0))))) (l' := [(0, .e (.c (.d (D.sl (dI .u8 l) 3)))), (1, .e (.c (.d (D.lit (.bool true))))), (5, iV (List.getD l 0 0)), (7, .e (.c (.d (D.lit (.int .u8 (List.getD l 1 0)))))), (10, iV 3), (11, iV 1)]) (g' := []) (nx' := 0) (by kernel_rfl) ⟨rfl, (by omega), (dI_at _ _ _ (by first | omega | rfl | (rw [dI_len]; omega) | (simp [dI_len] <;> omega)))⟩ ?_
  refine AW.rg [.no, .n 8, .no, .w, .i (((List.getD l 0 0) * 256) + (List.getD l 1 0)), .no] [0, 1, 5, 10, 11] [] (P := ((8 : Int) = 8) ∧ ((8 : Nat) ≤ 64) ∧ ((-9223372036854775808) ≤ ((List.getD l 0 0) * 256) ∧ ((List.getD l 0 0) * 256) ≤ 9223372036854775807) ∧ ((-9223372036854775808) ≤ (List.getD l 1 0) ∧ (List.getD l 1 0) ≤ 9223372036854775807) ∧ (bitsI .or .i64 ((List.getD l 0 0) * 256) (List.getD l 1 0) = (((List.getD l 0 0) * 256) + (List.getD l 1 0)))) (l' := [(0, .e (.c (.d (D.sl (dI .u8 l) 3)))), (1, .e (.c (.d (D.lit (.bool true))))), (5, iV (((List.getD l 0 0) * 256) + (List.getD l 1 0))), (10, iV 3), (11, iV 1)]) (g' := []) (nx' := 0) (by kernel_rfl) ⟨rfl, (by omega), ⟨by omega, by omega⟩, ⟨by omega, by omega⟩, (or_hi (by simp) (i := 8) 256 (by decide) (by omega) (by omega) (by omega))⟩ ?_
  refine AW.rg [.w, .no] [0, 1, 5, 10, 11] [] (P := ((-9223372036854775808) ≤ (2 : Int) ∧ (2 : Int) ≤ 9223372036854775807)) (l' := [(0, .e (.c (.d (D.sl (dI .u8 l) 3)))), (1, .e (.c (.d (D.lit (.bool true))))), (5, iV (((List.getD l 0 0) * 256) + (List.getD l 1 0))), (10, iV 3), (11, iV 2)]) (g' := []) (nx' := 0) (by kernel_rfl) ⟨by omega, by omega⟩ ?_
  refine AWr.s ?_
  refine AW.rgs [.b true] [0, 1, 5, 10, 11, 12] [] (P := (((2 : Int) < 3))) (l' := [(0, .e (.c (.d (D.sl (dI .u8 l) 3)))), (1, .e (.c (.d (D.lit (.bool true))))), (5, iV (((List.getD l 0 0) * 256) + (List.getD l 1 0))), (10, iV 3), (11, iV 2), (12, .e (.c (.d (D.lit (.bool true)))))]) (g' := []) (nx' := 0) (by kernel_rfl) (by omega) ?_
  refine AW.seq ?_
  refine AW.cond_t (.tmp (Look.of rfl)) ?_
  refine AW.skip ?_
  refine AW.seq ?_
  refine AW.block ?_
  refine AW.rgs [.no, .no] [0, 1, 5, 6, 10, 11] [] (P := True) (l' := [(0, .e (.c (.d (D.sl (dI .u8 l) 3)))), (1, .e (.c (.d (D.lit (.bool true))))), (5, iV (((List.getD l 0 0) * 256) + (List.getD l 1 0))), (6, iV 2), (10, iV 3), (11, iV 2)]) (g' := []) (nx' := 0) (by kernel_rfl) trivial ?_
  have hx5 : 0 ≤ (List.getD l 0 0) ∧ (List.getD l 0 0) ≤ 255 := hb.at 0 (by omega)
  refine AW.rgs [.no, .no, .no, .w, .no, .w, .n 0, .d (D.lit (.int .u8 (List.getD l 0 0))), .no] [0, 1, 5, 6, 7, 10, 11] [] (P := ((-9223372036854775808) ≤ (2 : Int) ∧ (2 : Int) ≤ 9223372036854775807) ∧ ((-9223372036854775808) ≤ (0 : Int) ∧ (0 : Int) ≤ 9223372036854775807) ∧ ((0 : Int) = 0) ∧ ((0 : Nat) < 3) ∧ ((List.drop 0 (dI .u8 l))[0]? = some (D.lit (.int .u8 (List.getD l 0 0))))) (l' := [(0, .e (.c (.d (D.sl (dI .u8 l) 3)))), (1, .e (.c (.d (D.lit (.bool true))))), (5, iV (((List.getD l 0 0) * 256) + (List.getD l 1 0))), (6, iV 2), (7, .e (.c (.d (D.lit (.int .u8 (List.getD l 0 0)))))), (10, iV 3), (11, iV 2)]) (g' := []) (nx' := 0) (by kernel_rfl) ⟨⟨by omega, by omega⟩, ⟨by omega, by omega⟩, rfl, (by omega), (dI_at _ _ _ (by first | omega | rfl | (rw [dI_len]; omega) | (simp [dI_len] <;> omega)))⟩ ?_
  refine AW.seq ?_
  refine AW.rgs [.no] [0, 1, 5, 6, 7, 10, 11, 22] [] (P := True) (l' := [(0, .e (.c (.d (D.sl (dI .u8 l) 3)))), (1, .e (.c (.d (D.lit (.bool true))))), (5, iV (((List.getD l 0 0) * 256) + (List.getD l 1 0))), (6, iV 2), (7, .e (.c (.d (D.lit (.int .u8 (List.getD l 0 0)))))), (10, iV 3), (11, iV 2), (22, .e (.c (.d (D.lit (.bool true)))))]) (g' := []) (nx' := 0) (by kernel_rfl) trivial ?_
  refine AW.cond_t (.tmp (Look.of rfl)) ?_
  have hx6 : 0 ≤ (List.getD l 2 0) ∧ (List.getD l 2 0) ≤ 255 := hb.at 2 (by omega)
  refine AW.rg [.no, .no, .n 2, .d (D.lit (.int .u8 (List.getD l 2 0))), .no] [0, 1, 5, 7, 10, 11] [] (P := ((2 : Int) = 2) ∧ ((2 : Nat) < 3) ∧ ((List.drop 2 (dI .u8 l))[0]? = some (D.lit (.int .u8 (List.getD l 2 0))))) (l' := [(0, .e (.c (.d (D.sl (dI .u8 l) 3)))), (1, .e (.c (.d (D.lit (.bool true))))), (5, iV (((List.getD l 0 0) * 256) + (List.getD l 1 0))), (7, .e (.c (.d (D.lit (.int .u8 (List.getD l 2 0)))))), (10, iV 3), (11, iV 2)]) (g' := []) (nx' := 0) (by kernel_rfl) ⟨rfl, (by omega), (dI_at _ _ _ (by first | omega | rfl | (rw [dI_len]; omega) | (simp [dI_len] <;> omega)))⟩ ?_
  refine AW.rg [.no, .n 8, .no, .w, .i (((((List.getD l 0 0) * 256) + (List.getD l 1 0)) * 256) + (List.getD l 2 0)), .no] [0, 1, 5, 10, 11] [] (P := ((8 : Int) = 8) ∧ ((8 : Nat) ≤ 64) ∧ ((-9223372036854775808) ≤ ((((List.getD l 0 0) * 256) + (List.getD l 1 0)) * 256) ∧ ((((List.getD l 0 0) * 256) + (List.getD l 1 0)) * 256) ≤ 9223372036854775807) ∧ ((-9223372036854775808) ≤ (List.getD l 2 0) ∧ (List.getD l 2 0) ≤ 9223372036854775807) ∧ (bitsI .or .i64 ((((List.getD l 0 0) * 256) + (List.getD l 1 0)) * 256) (List.getD l 2 0) = (((((List.getD l 0 0) * 256) + (List.getD l 1 0)) * 256) + (List.getD l 2 0)))) (l' := [(0, .e (.c (.d (D.sl (dI .u8 l) 3)))), (1, .e (.c (.d (D.lit (.bool true))))), (5, iV (((((List.getD l 0 0) * 256) + (List.getD l 1 0)) * 256) + (List.getD l 2 0))), (10, iV 3), (11, iV 2)]) (g' := []) (nx' := 0) (by kernel_rfl) ⟨rfl, (by omega), ⟨by omega, by omega⟩, ⟨by omega, by omega⟩, (or_hi (by simp) (i := 8) 256 (by decide) (by omega) (by omega) (by omega))⟩ ?_
  refine AW.rg [.w, .no] [0, 1, 5, 10, 11] [] (P := ((-9223372036854775808) ≤ (3 : Int) ∧ (3 : Int) ≤ 9223372036854775807)) (l' := [(0, .e (.c (.d (D.sl (dI .u8 l) 3)))), (1, .e (.c (.d (D.lit (.bool true))))), (5, iV (((((List.getD l 0 0) * 256) + (List.getD l 1 0)) * 256) + (List.getD l 2 0))), (10, iV 3), (11, iV 3)]) (g' := []) (nx' := 0) (by kernel_rfl) ⟨by omega, by omega⟩ ?_
  refine AWr.s ?_
  refine AW.rgs [.b false] [0, 1, 5, 10, 11, 12] [] (P := (¬ ((3 : Int) < 3))) (l' := [(0, .e (.c (.d (D.sl (dI .u8 l) 3)))), (1, .e (.c (.d (D.lit (.bool true))))), (5, iV (((((List.getD l 0 0) * 256) + (List.getD l 1 0)) * 256) + (List.getD l 2 0))), (10, iV 3), (11, iV 3), (12, .e (.c (.d (D.lit (.bool false)))))]) (g' := []) (nx' := 0) (by kernel_rfl) (by omega) ?_
  refine AW.seq ?_
  refine AW.cond_f (.tmp (Look.of rfl)) ?_
  refine AW.exit ?_
  refine AW.seq ?_
  refine AW.rgs [.no, .no, .w, .w, .n 23, .no] [5, 8] [] (P := ((-9223372036854775808) ≤ (24 : Int) ∧ (24 : Int) ≤ 9223372036854775807) ∧ ((-9223372036854775808) ≤ (23 : Int) ∧ (23 : Int) ≤ 9223372036854775807) ∧ ((23 : Int) = 23) ∧ ((23 : Nat) ≤ 64) ∧ ((-9223372036854775808) ≤ (8388608 : Int) ∧ (8388608 : Int) ≤ 9223372036854775807)) (l' := [(5, iV (((((List.getD l 0 0) * 256) + (List.getD l 1 0)) * 256) + (List.getD l 2 0))), (8, iV 8388608)]) (g' := []) (nx' := 0) (by kernel_rfl) ⟨⟨by omega, by omega⟩, ⟨by omega, by omega⟩, rfl, (by omega), ⟨by omega, by omega⟩⟩ ?_
  by_cases hx7 : ((8388608 : Int) ≤ (((((List.getD l 0 0) * 256) + (List.getD l 1 0)) * 256) + (List.getD l 2 0)))
  · refine AW.rgs [.no, .no, .b true] [5, 8, 40] [] (P := (((8388608 : Int) ≤ (((((List.getD l 0 0) * 256) + (List.getD l 1 0)) * 256) + (List.getD l 2 0))))) (l' := [(5, iV (((((List.getD l 0 0) * 256) + (List.getD l 1 0)) * 256) + (List.getD l 2 0))), (8, iV 8388608), (40, .e (.c (.d (D.lit (.bool true)))))]) (g' := []) (nx' := 0) (by kernel_rfl) (by omega) ?_
    refine AW.cond_t (.tmp (Look.of rfl)) ?_
    refine AW.rg [.no, .no, .w, .w, .no] [5] [] (P := ((-9223372036854775808) ≤ (16777216 : Int) ∧ (16777216 : Int) ≤ 9223372036854775807) ∧ ((-9223372036854775808) ≤ ((((((List.getD l 0 0) * 256) + (List.getD l 1 0)) * 256) + (List.getD l 2 0)) - 16777216) ∧ ((((((List.getD l 0 0) * 256) + (List.getD l 1 0)) * 256) + (List.getD l 2 0)) - 16777216) ≤ 9223372036854775807)) (l' := [(5, iV ((((((List.getD l 0 0) * 256) + (List.getD l 1 0)) * 256) + (List.getD l 2 0)) - 16777216))]) (g' := []) (nx' := 0) (by kernel_rfl) ⟨⟨by omega, by omega⟩, ⟨by omega, by omega⟩⟩ ?_
    refine AW.rgs [.no, .no] [4] [] (P := True) (l' := [(4, iV ((((((List.getD l 0 0) * 256) + (List.getD l 1 0)) * 256) + (List.getD l 2 0)) - 16777216))]) (g' := []) (nx' := 0) (by kernel_rfl) trivial ?_
    refine AW.ret ?_
    exact EndP.of (.inr rfl) [] (P := (((sgn 8388608 (((List.getD l 2 0) + ((List.getD l 1 0) * 256)) + ((List.getD l 0 0) * 65536))) : Int) = ((((((List.getD l 0 0) * 256) + (List.getD l 1 0)) * 256) + (List.getD l 2 0)) - 16777216))) (by kernel_rfl) (by first | rfl | omega | (unfold sgn; split <;> omega))
  · refine AW.rgs [.no, .no, .b false] [5, 8, 40] [] (P := (¬ ((8388608 : Int) ≤ (((((List.getD l 0 0) * 256) + (List.getD l 1 0)) * 256) + (List.getD l 2 0))))) (l' := [(5, iV (((((List.getD l 0 0) * 256) + (List.getD l 1 0)) * 256) + (List.getD l 2 0))), (8, iV 8388608), (40, .e (.c (.d (D.lit (.bool false)))))]) (g' := []) (nx' := 0) (by kernel_rfl) (by omega) ?_
    refine AW.cond_f (.tmp (Look.of rfl)) ?_
    refine AW.skip ?_
    refine AW.rgs [.no, .no] [4] [] (P := True) (l' := [(4, iV (((((List.getD l 0 0) * 256) + (List.getD l 1 0)) * 256) + (List.getD l 2 0)))]) (g' := []) (nx' := 0) (by kernel_rfl) trivial ?_
    refine AW.ret ?_
    exact EndP.of (.inr rfl) [] (P := (((sgn 8388608 (((List.getD l 2 0) + ((List.getD l 1 0) * 256)) + ((List.getD l 0 0) * 65536))) : Int) = (((((List.getD l 0 0) * 256) + (List.getD l 1 0)) * 256) + (List.getD l 2 0)))) (by kernel_rfl) (by first | rfl | omega | (unfold sgn; split <;> omega))

set_option maxHeartbeats 4000000 in
set_option maxRecDepth 100000 in
theorem K_int6 (l : List Int) (hn : List.length l = 4) (hb : Byt l) : Fun 32 [.c (.d (D.sl (dI .u8 l) 4)), .c (.d (D.lit (.bool false)))] (toG []) 0 (iV (sgn 2147483648 ((((List.getD l 0 0) + ((List.getD l 1 0) * 256)) + ((List.getD l 2 0) * 65536)) + ((List.getD l 3 0) * 16777216)))) (toG []) 0 := by
  refine Fun.mk (n := 46) Tryd.func32 rfl rfl (Nat.le_of_ble_eq_true rfl) ?_
  intro cx hcx
  refine AW.rgs [.no] [0, 1] [] (P := True) (l' := [(0, .e (.c (.d (D.sl (dI .u8 l) 4)))), (1, .e (.c (.d (D.lit (.bool false)))))]) (g' := []) (nx' := 0) (by kernel_rfl) trivial ?_
  refine AW.rgs [.no] [0, 1, 5] [] (P := True) (l' := [(0, .e (.c (.d (D.sl (dI .u8 l) 4)))), (1, .e (.c (.d (D.lit (.bool false))))), (5, iV 0)]) (g' := []) (nx' := 0) (by kernel_rfl) trivial ?_
  refine AW.seq ?_
  refine AW.rgs [.no, .no, .no] [0, 1, 5, 10, 11] [] (P := True) (l' := [(0, .e (.c (.d (D.sl (dI .u8 l) 4)))), (1, .e (.c (.d (D.lit (.bool false))))), (5, iV 0), (10, iV 4), (11, iV 0)]) (g' := []) (nx' := 0) (by kernel_rfl) trivial ?_
  refine AW.block ?_
  refine AW.rounds 5 ?_
  refine AWr.s ?_
  refine AW.rgs [.b true] [0, 1, 5, 10, 11, 12] [] (P := (((0 : Int) < 4))) (l' := [(0, .e (.c (.d (D.sl (dI .u8 l) 4)))), (1, .e (.c (.d (D.lit (.bool false))))), (5, iV 0), (10, iV 4), (11, iV 0), (12, .e (.c (.d (D.lit (.bool true)))))]) (g' := []) (nx' := 0) (by kernel_rfl) (by omega) ?_
  refine AW.seq ?_
  refine AW.cond_t (.tmp (Look.of rfl)) ?_
  refine AW.skip ?_
  refine AW.seq ?_
  refine AW.block ?_
  refine AW.rgs [.no, .no] [0, 1, 5, 6, 10, 11] [] (P := True) (l' := [(0, .e (.c (.d (D.sl (dI .u8 l) 4)))), (1, .e (.c (.d (D.lit (.bool false))))), (5, iV 0), (6, iV 0), (10, iV 4), (11, iV 0)]) (g' := []) (nx' := 0) (by kernel_rfl) trivial ?_
  have hx1 : 0 ≤ (List.getD l 3 0) ∧ (List.getD l 3 0) ≤ 255 := hb.at 3 (by omega)
  refine AW.rgs [.no, .no, .no, .w, .no, .w, .n 3, .d (D.lit (.int .u8 (List.getD l 3 0))), .no] [0, 1, 5, 6, 7, 10, 11] [] (P := ((-9223372036854775808) ≤ (3 : Int) ∧ (3 : Int) ≤ 9223372036854775807) ∧ ((-9223372036854775808) ≤ (3 : Int) ∧ (3 : Int) ≤ 9223372036854775807) ∧ ((3 : Int) = 3) ∧ ((3 : Nat) < 4) ∧ ((List.drop 3 (dI .u8 l))[0]? = some (D.lit (.int .u8 (List.getD l 3 0))))) (l' := [(0, .e (.c (.d (D.sl (dI .u8 l) 4)))), (1, .e (.c (.d (D.lit (.bool false))))), (5, iV 0), (6, iV 0), (7, .e (.c (.d (D.lit (.int .u8 (List.getD l 3 0)))))), (10, iV 4), (11, iV 0)]) (g' := []) (nx' := 0) (by kernel_rfl) ⟨⟨by omega, by omega⟩, ⟨by omega, by omega⟩, rfl, (by omega), (dI_at _ _ _ (by first | omega | rfl | (rw [dI_len]; omega) | (simp [dI_len] <;> omega)))⟩ ?_
  refine AW.seq ?_
  refine AW.rgs [.no] [0, 1, 5, 6, 7, 10, 11, 22] [] (P := True) (l' := [(0, .e (.c (.d (D.sl (dI .u8 l) 4)))), (1, .e (.c (.d (D.lit (.bool false))))), (5, iV 0), (6, iV 0), (7, .e (.c (.d (D.lit (.int .u8 (List.getD l 3 0)))))), (10, iV 4), (11, iV 0), (22, .e (.c (.d (D.lit (.bool false)))))]) (g' := []) (nx' := 0) (by kernel_rfl) trivial ?_
  refine AW.cond_f (.tmp (Look.of rfl)) ?_
  refine AW.skip ?_
  refine AW.rg [.no, .n 8, .no, .w, .i (List.getD l 3 0), .no] [0, 1, 5, 10, 11] [] (P := ((8 : Int) = 8) ∧ ((8 : Nat) ≤ 64) ∧ ((-9223372036854775808) ≤ (0 : Int) ∧ (0 : Int) ≤ 9223372036854775807) ∧ ((-9223372036854775808) ≤ (List.getD l 3 0) ∧ (List.getD l 3 0) ≤ 9223372036854775807) ∧ (bitsI .or .i64 0 (List.getD l 3 0) = (List.getD l 3 0))) (l' := [(0, .e (.c (.d (D.sl (dI .u8 l) 4)))), (1, .e (.c (.d (D.lit (.bool false))))), (5, iV (List.getD l 3 0)), (10, iV 4), (11, iV 0)]) (g' := []) (nx' := 0) (by kernel_rfl) ⟨rfl, (by omega), ⟨by omega, by omega⟩, ⟨by omega, by omega⟩, (or_z .i64 (by simp) (by omega)).1⟩ ?_
  refine AW.rg [.w, .no] [0, 1, 5, 10, 11] [] (P := ((-9223372036854775808) ≤ (1 : Int) ∧ (1 : Int) ≤ 9223372036854775807)) (l' := [(0, .e (.c (.d (D.sl (dI .u8 l) 4)))), (1, .e (.c (.d (D.lit (.bool false))))), (5, iV (List.getD l 3 0)), (10, iV 4), (11, iV 1)]) (g' := []) (nx' := 0) (by kernel_rfl) ⟨by omega, by omega⟩ ?_
  refine AWr.s ?_
  refine AW.rgs [.b true] [0, 1, 5, 10, 11, 12] [] (P := (((1 : Int) < 4))) (l' := [(0, .e (.c (.d (D.sl (dI .u8 l) 4)))), (1, .e (.c (.d (D.lit (.bool false))))), (5, iV (List.getD l 3 0)), (10, iV 4), (11, iV 1), (12, .e (.c (.d (D.lit (.bool true)))))]) (g' := []) (nx' := 0) (by kernel_rfl) (by omega) ?_
  refine AW.seq ?_
  refine AW.cond_t (.tmp (Look.of rfl)) ?_
  refine AW.skip ?_
  refine AW.seq ?_
  refine AW.block ?_
  refine AW.rgs [.no, .no] [0, 1, 5, 6, 10, 11] [] (P := True) (l' := [(0, .e (.c (.d (D.sl (dI .u8 l) 4)))), (1, .e (.c (.d (D.lit (.bool false))))), (5, iV (List.getD l 3 0)), (6, iV 1), (10, iV 4), (11, iV 1)]) (g' := []) (nx' := 0) (by kernel_rfl) trivial ?_
  have hx2 : 0 ≤ (List.getD l 2 0) ∧ (List.getD l 2 0) ≤ 255 := hb.at 2 (by omega)
  refine AW.rgs [.no, .no, .no, .w, .no, .w, .n 2, .d (D.lit (.int .u8 (List.getD l 2 0))), .no] [0, 1, 5, 6, 7, 10, 11] [] (P := ((-9223372036854775808) ≤ (3 : Int) ∧ (3 : Int) ≤ 9223372036854775807) ∧ ((-9223372036854775808) ≤ (2 : Int) ∧ (2 : Int) ≤ 9223372036854775807) ∧ ((2 : Int) = 2) ∧ ((2 : Nat) < 4) ∧ ((List.drop 2 (dI .u8 l))[0]? = some (D.lit (.int .u8 (List.getD l 2 0))))) (l' := [(0, .e (.c (.d (D.sl (dI .u8 l) 4)))), (1, .e (.c (.d (D.lit (.bool false))))), (5, iV (List.getD l 3 0)), (6, iV 1), (7, .e (.c (.d (D.lit (.int .u8 (List.getD l 2 0)))))), (10, iV 4), (11, iV 1)]) (g' := []) (nx' := 0) (by kernel_rfl) ⟨⟨by omega, by omega⟩, ⟨by omega, by omega⟩, rfl, (by omega), (dI_at _ _ _ (by first | omega | rfl | (rw [dI_len]; omega) | (simp [dI_len] <;> omega)))⟩ ?_
  refine AW.seq ?_
  refine AW.rgs [.no] [0, 1, 5, 6, 7, 10, 11, 22] [] (P := True) (l' := [(0, .e (.c (.d (D.sl (dI .u8 l) 4)))), (1, .e (.c (.d (D.lit (.bool false))))), (5, iV (List.getD l 3 0)), (6, iV 1), (7, .e (.c (.d (D.lit (.int .u8 (List.getD l 2 0)))))), (10, iV 4), (11, iV 1), (22, .e (.c (.d (D.lit (.bool false)))))]) (g' := []) (nx' := 0) (by kernel_rfl) trivial ?_
  refine AW.cond_f (.tmp (Look.of rfl)) ?_
  refine AW.skip ?_
  refine AW.rg [.no, .n 8, .no, .w, .i (((List.getD l 3 0) * 256) + (List.getD l 2 0)), .no] [0, 1, 5, 10, 11] [] (P := ((8 : Int) = 8) ∧ ((8 : Nat) ≤ 64) ∧ ((-9223372036854775808) ≤ ((List.getD l 3 0) * 256) ∧ ((List.getD l 3 0) * 256) ≤ 9223372036854775807) ∧ ((-9223372036854775808) ≤ (List.getD l 2 0) ∧ (List.getD l 2 0) ≤ 9223372036854775807) ∧ (bitsI .or .i64 ((List.getD l 3 0) * 256) (List.getD l 2 0) = (((List.getD l 3 0) * 256) + (List.getD l 2 0)))) (l' := [(0, .e (.c (.d (D.sl (dI .u8 l) 4)))), (1, .e (.c (.d (D.lit (.bool false))))), (5, iV (((List.getD l 3 0) * 256) + (List.getD l 2 0))), (10, iV 4), (11, iV 1)]) (g' := []) (nx' := 0) (by kernel_rfl) ⟨rfl, (by omega), ⟨by omega, by omega⟩, ⟨by omega, by omega⟩, (or_hi (by simp) (i := 8) 256 (by decide) (by omega) (by omega) (by omega))⟩ ?_
  refine AW.rg [.w, .no] [0, 1, 5, 10, 11] [] (P := ((-9223372036854775808) ≤ (2 : Int) ∧ (2 : Int) ≤ 9223372036854775807)) (l' := [(0, .e (.c (.d (D.sl (dI .u8 l) 4)))), (1, .e (.c (.d (D.lit (.bool false))))), (5, iV (((List.getD l 3 0) * 256) + (List.getD l 2 0))), (10, iV 4), (11, iV 2)]) (g' := []) (nx' := 0) (by kernel_rfl) ⟨by omega, by omega⟩ ?_
  refine AWr.s ?_
  refine AW.rgs [.b true] [0, 1, 5, 10, 11, 12] [] (P := (((2 : Int) < 4))) (l' := [(0, .e (.c (.d (D.sl (dI .u8 l) 4)))), (1, .e (.c (.d (D.lit (.bool false))))), (5, iV (((List.getD l 3 0) * 256) + (List.getD l 2 0))), (10, iV 4), (11, iV 2), (12, .e (.c (.d (D.lit (.bool true)))))]) (g' := []) (nx' := 0) (by kernel_rfl) (by omega) ?_
  refine AW.seq ?_
  refine AW.cond_t (.tmp (Look.of rfl)) ?_
  refine AW.skip ?_
  refine AW.seq ?_
  refine AW.block ?_
  refine AW.rgs [.no, .no] [0, 1, 5, 6, 10, 11] [] (P := True) (l' := [(0, .e (.c (.d (D.sl (dI .u8 l) 4)))), (1, .e (.c (.d (D.lit (.bool false))))), (5, iV (((List.getD l 3 0) * 256) + (List.getD l 2 0))), (6, iV 2), (10, iV 4), (11, iV 2)]) (g' := []) (nx' := 0) (by kernel_rfl) trivial ?_
  have hx3 : 0 ≤ (List.getD l 1 0) ∧ (List.getD l 1 0) ≤ 255 := hb.at 1 (by omega)
  refine AW.rgs [.no, .no, .no, .w, .no, .w, .n 1, .d (D.lit (.int .u8 (List.getD l 1 0))), .no] [0, 1, 5, 6, 7, 10, 11] [] (P := ((-9223372036854775808) ≤ (3 : Int) ∧ (3 : Int) ≤ 9223372036854775807) ∧ ((-9223372036854775808) ≤ (1 : Int) ∧ (1 : Int) ≤ 9223372036854775807) ∧ ((1 : Int) = 1) ∧ ((1 : Nat) < 4) ∧ ((List.drop 1 (dI .u8 l))[0]? = some (D.lit (.int .u8 (List.getD l 1 0))))) (l' := [(0, .e (.c (.d (D.sl (dI .u8 l) 4)))), (1, .e (.c (.d (D.lit (.bool false))))), (5, iV (((List.getD l 3 0) * 256) + (List.getD l 2 0))), (6, iV 2), (7, .e (.c (.d (D.lit (.int .u8 (List.getD l 1 0)))))), (10, iV 4), (11, iV 2)]) (g' := []) (nx' := 0) (by kernel_rfl) ⟨⟨by omega, by omega⟩, ⟨by omega, by omega⟩, rfl, (by omega), (dI_at _ _ _ (by first | omega | rfl | (rw [dI_len]; omega) | (simp [dI_len] <;> omega)))⟩ ?_
  refine AW.seq ?_
  refine AW.rgs [.no] [0, 1, 5, 6, 7, 10, 11, 22] [] (P := True) (l' := [(0, .e (.c (.d (D.sl (dI .u8 l) 4)))), (1, .e (.c (.d (D.lit (.bool false))))), (5, iV (((List.getD l 3 0) * 256) + (List.getD l 2 0))), (6, iV 2), (7, .e (.c (.d (D.lit (.int .u8 (List.getD l 1 0)))))), (10, iV 4), (11, iV 2), (22, .e (.c (.d (D.lit (.bool false)))))]) (g' := []) (nx' := 0) (by kernel_rfl) trivial ?_
  refine AW.cond_f (.tmp (Look.of rfl)) ?_
  refine AW.skip ?_
  refine AW.rg [.no, .n 8, .no, .w, .i (((((List.getD l 3 0) * 256) + (List.getD l 2 0)) * 256) + (List.getD l 1 0)), .no] [0, 1, 5, 10, 11] [] (P := ((8 : Int) = 8) ∧ ((8 : Nat) ≤ 64) ∧ ((-9223372036854775808) ≤ ((((List.getD l 3 0) * 256) + (List.getD l 2 0)) * 256) ∧ ((((List.getD l 3 0) * 256) + (List.getD l 2 0)) * 256) ≤ 9223372036854775807) ∧ ((-9223372036854775808) ≤ (List.getD l 1 0) ∧ (List.getD l 1 0) ≤ 9223372036854775807) ∧ (bitsI .or .i64 ((((List.getD l 3 0) * 256) + (List.getD l 2 0)) * 256) (List.getD l 1 0) = (((((List.getD l 3 0) * 256) + (List.getD l 2 0)) * 256) + (List.getD l 1 0)))) (l' := [(0, .e (.c (.d (D.sl (dI .u8 l) 4)))), (1, .e (.c (.d (D.lit (.bool false))))), (5, iV (((((List.getD l 3 0) * 256) + (List.getD l 2 0)) * 256) + (List.getD l 1 0))), (10, iV 4), (11, iV 2)]) (g' := []) (nx' := 0) (by kernel_rfl) ⟨rfl, (by omega), ⟨by omega, by omega⟩, ⟨by omega, by omega⟩, (or_hi (by simp) (i := 8) 256 (by decide) (by omega) (by omega) (by omega))⟩ ?_
  refine AW.rg [.w, .no] [0, 1, 5, 10, 11] [] (P := ((-9223372036854775808) ≤ (3 : Int) ∧ (3 : Int) ≤ 9223372036854775807)) (l' := [(0, .e (.c (.d (D.sl (dI .u8 l) 4)))), (1, .e (.c (.d (D.lit (.bool false))))), (5, iV (((((List.getD l 3 0) * 256) + (List.getD l 2 0)) * 256) + (List.getD l 1 0))), (10, iV 4), (11, iV 3)]) (g' := []) (nx' := 0) (by kernel_rfl) ⟨by omega, by omega⟩ ?_
  refine AWr.s ?_
  refine AW.rgs [.b true] [0, 1, 5, 10, 11, 12] [] (P := (((3 : Int) < 4))) (l' := [(0, .e (.c (.d (D.sl (dI .u8 l) 4)))), (1, .e (.c (.d (D.lit (.bool false))))), (5, iV (((((List.getD l 3 0) * 256) + (List.getD l 2 0)) * 256) + (List.getD l 1 0))), (10, iV 4), (11, iV 3), (12, .e (.c (.d (D.lit (.bool true)))))]) (g' := []) (nx' := 0) (by kernel_rfl) (by omega) ?_
  refine AW.seq ?_
  refine AW.cond_t (.tmp (Look.of rfl)) ?_
  refine AW.skip ?_
  refine AW.seq ?_
  refine AW.block ?_
  refine AW.rgs [.no, .no] [0, 1, 5, 6, 10, 11] [] (P := True) (l' := [(0, .e (.c (.d (D.sl (dI .u8 l) 4)))), (1, .e (.c (.d (D.lit (.bool false))))), (5, iV (((((List.getD l 3 0) * 256) + (List.getD l 2 0)) * 256) + (List.getD l 1 0))), (6, iV 3), (10, iV 4), (11, iV 3)]) (g' := []) (nx' := 0) (by kernel_rfl) trivial ?_
  have hx4 : 0 ≤ (List.getD l 0 0) ∧ (List.getD l 0 0) ≤ 255 := hb.at 0 (by omega)
  refine AW.rgs [.no, .no, .no, .w, .no, .w, .n 0, .d (D.lit (.int .u8 (List.getD l 0 0))), .no] [0, 1, 5, 6, 7, 10, 11] [] (P := ((-9223372036854775808) ≤ (3 : Int) ∧ (3 : Int) ≤ 9223372036854775807) ∧ ((-9223372036854775808) ≤ (0 : Int) ∧ (0 : Int) ≤ 9223372036854775807) ∧ ((0 : Int) = 0) ∧ ((0 : Nat) < 4) ∧ ((List.drop 0 (dI .u8 l))[0]? = some (D.lit (.int .u8 (List.getD l 0 0))))) (l' := [(0, .e (.c (.d (D.sl (dI .u8 l) 4)))), (1, .e (.c (.d (D.lit (.bool false))))), (5, iV (((((List.getD l 3 0) * 256) + (List.getD l 2 0)) * 256) + (List.getD l 1 0))), (6, iV 3), (7, .e (.c (.d (D.lit (.int .u8 (List.getD l 0 0)))))), (10, iV 4), (11, iV 3)]) (g' := []) (nx' := 0) (by kernel_rfl) ⟨⟨by omega, by omega⟩, ⟨by omega, by omega⟩, rfl, (by omega), (dI_at _ _ _ (by first | omega | rfl | (rw [dI_len]; omega) | (simp [dI_len] <;> omega)))⟩ ?_
  refine AW.seq ?_
  refine AW.rgs [.no] [0, 1, 5, 6, 7, 10, 11, 22] [] (P := True) (l' := [(0, .e (.c (.d (D.sl (dI .u8 l) 4)))), (1, .e (.c (.d (D.lit (.bool false))))), (5, iV (((((List.getD l 3 0) * 256) + (List.getD l 2 0)) * 256) + (List.getD l 1 0))), (6, iV 3), (7, .e (.c (.d (D.lit (.int .u8 (List.getD l 0 0)))))), (10, iV 4), (11, iV 3), (22, .e (.c (.d (D.lit (.bool false)))))]) (g' := []) (nx' := 0) (by kernel_rfl) trivial ?_
  refine AW.cond_f (.tmp (Look.of rfl)) ?_
  refine AW.skip ?_
  refine AW.rg [.no, .n 8, .no, .w, .i (((((((List.getD l 3 0) * 256) + (List.getD l 2 0)) * 256) + (List.getD l 1 0)) * 256) + (List.getD l 0 0)), .no] [0, 1, 5, 10, 11] [] (P := ((8 : Int) = 8) ∧ ((8 : Nat) ≤ 64) ∧ ((-9223372036854775808) ≤ ((((((List.getD l 3 0) * 256) + (List.getD l 2 0)) * 256) + (List.getD l 1 0)) * 256) ∧ ((((((List.getD l 3 0) * 256) + (List.getD l 2 0)) * 256) + (List.getD l 1 0)) * 256) ≤ 9223372036854775807) ∧ ((-9223372036854775808) ≤ (List.getD l 0 0) ∧ (List.getD l 0 0) ≤ 9223372036854775807) ∧ (bitsI .or .i64 ((((((List.getD l 3 0) * 256) + (List.getD l 2 0)) * 256) + (List.getD l 1 0)) * 256) (List.getD l 0 0) = (((((((List.getD l 3 0) * 256) + (List.getD l 2 0)) * 256) + (List.getD l 1 0)) * 256) + (List.getD l 0 0)))) (l' := [(0, .e (.c (.d (D.sl (dI .u8 l) 4)))), (1, .e (.c (.d (D.lit (.bool false))))), (5, iV (((((((List.getD l 3 0) * 256) + (List.getD l 2 0)) * 256) + (List.getD l 1 0)) * 256) + (List.getD l 0 0))), (10, iV 4), (11, iV 3)]) (g' := []) (nx' := 0) (by kernel_rfl) ⟨rfl, (by omega), ⟨by omega, by omega⟩, ⟨by omega, by omega⟩, (or_hi (by simp) (i := 8) 256 (by decide) (by omega) (by omega) (by omega))⟩ ?_
  refine AW.rg [.w, .no] [0, 1, 5, 10, 11] [] (P := ((-9223372036854775808) ≤ (4 : Int) ∧ (4 : Int) ≤ 9223372036854775807)) (l' := [(0, .e (.c (.d (D.sl (dI .u8 l) 4)))), (1, .e (.c (.d (D.lit (.bool false))))), (5, iV (((((((List.getD l 3 0) * 256) + (List.getD l 2 0)) * 256) + (List.getD l 1 0)) * 256) + (List.getD l 0 0))), (10, iV 4), (11, iV 4)]) (g' := []) (nx' := 0) (by kernel_rfl) ⟨by omega, by omega⟩ ?_
  refine AWr.s ?_
  refine AW.rgs [.b false] [0, 1, 5, 10, 11, 12] [] (P := (¬ ((4 : Int) < 4))) (l' := [(0, .e (.c (.d (D.sl (dI .u8 l) 4)))), (1, .e (.c (.d (D.lit (.bool false))))), (5, iV (((((((List.getD l 3 0) * 256) + (List.getD l 2 0)) * 256) + (List.getD l 1 0)) * 256) + (List.getD l 0 0))), (10, iV 4), (11, iV 4), (12, .e (.c (.d (D.lit (.bool false)))))]) (g' := []) (nx' := 0) (by kernel_rfl) (by omega) ?_
  refine AW.seq ?_
  refine AW.cond_f (.tmp (Look.of rfl)) ?_
  refine AW.exit ?_
  refine AW.seq ?_
  refine AW.rgs [.no, .no, .w, .w, .n 31, .no] [5, 8] [] (P := ((-9223372036854775808) ≤ (32 : Int) ∧ (32 : Int) ≤ 9223372036854775807) ∧ ((-9223372036854775808) ≤ (31 : Int) ∧ (31 : Int) ≤ 9223372036854775807) ∧ ((31 : Int) = 31) ∧ ((31 : Nat) ≤ 64) ∧ ((-9223372036854775808) ≤ (2147483648 : Int) ∧ (2147483648 : Int) ≤ 9223372036854775807)) (l' := [(5, iV (((((((List.getD l 3 0) * 256) + (List.getD l 2 0)) * 256) + (List.getD l 1 0)) * 256) + (List.getD l 0 0))), (8, iV 2147483648)]) (g' := []) (nx' := 0) (by kernel_rfl) ⟨⟨by omega, by omega⟩, ⟨by omega, by omega⟩, rfl, (by omega), ⟨by omega, by omega⟩⟩ ?_
  by_cases hx5 : ((2147483648 : Int) ≤ (((((((List.getD l 3 0) * 256) + (List.getD l 2 0)) * 256) + (List.getD l 1 0)) * 256) + (List.getD l 0 0)))
  · refine AW.rgs [.no, .no, .b true] [5, 8, 40] [] (P := (((2147483648 : Int) ≤ (((((((List.getD l 3 0) * 256) + (List.getD l 2 0)) * 256) + (List.getD l 1 0)) * 256) + (List.getD l 0 0))))) (l' := [(5, iV (((((((List.getD l 3 0) * 256) + (List.getD l 2 0)) * 256) + (List.getD l 1 0)) * 256) + (List.getD l 0 0))), (8, iV 2147483648), (40, .e (.c (.d (D.lit (.bool true)))))]) (g' := []) (nx' := 0) (by kernel_rfl) (by omega) ?_
    refine AW.cond_t (.tmp (Look.of rfl)) ?_
    refine AW.rg [.no, .no, .w, .w, .no] [5] [] (P := ((-9223372036854775808) ≤ (4294967296 : Int) ∧ (4294967296 : Int) ≤ 9223372036854775807) ∧ ((-9223372036854775808) ≤ ((((((((List.getD l 3 0) * 256) + (List.getD l 2 0)) * 256) + (List.getD l 1 0)) * 256) + (List.getD l 0 0)) - 4294967296) ∧ ((((((((List.getD l 3 0) * 256) + (List.getD l 2 0)) * 256) + (List.getD l 1 0)) * 256) + (List.getD l 0 0)) - 4294967296) ≤ 9223372036854775807)) (l' := [(5, iV ((((((((List.getD l 3 0) * 256) + (List.getD l 2 0)) * 256) + (List.getD l 1 0)) * 256) + (List.getD l 0 0)) - 4294967296))]) (g' := []) (nx' := 0) (by kernel_rfl) ⟨⟨by omega, by omega⟩, ⟨by omega, by omega⟩⟩ ?_
    refine AW.rgs [.no, .no] [4] [] (P := True) (l' := [(4, iV ((((((((List.getD l 3 0) * 256) + (List.getD l 2 0)) * 256) + (List.getD l 1 0)) * 256) + (List.getD l 0 0)) - 4294967296))]) (g' := []) (nx' := 0) (by kernel_rfl) trivial ?_
    refine AW.ret ?_
    exact EndP.of (.inr rfl) [] (P := (((sgn 2147483648 ((((List.getD l 0 0) + ((List.getD l 1 0) * 256)) + ((List.getD l 2 0) * 65536)) + ((List.getD l 3 0) * 16777216))) : Int) = ((((((((List.getD l 3 0) * 256) + (List.getD l 2 0)) * 256) + (List.getD l 1 0)) * 256) + (List.getD l 0 0)) - 4294967296))) (by kernel_rfl) (by first | rfl | omega | (unfold sgn; split <;> omega))
  · refine AW.rgs [.no, .no, .b false] [5, 8, 40] [] (P := (¬ ((2147483648 : Int) ≤ (((((((List.getD l 3 0) * 256) + (List.getD l 2 0)) * 256) + (List.getD l 1 0)) * 256) + (List.getD l 0 0))))) (l' := [(5, iV (((((((List.getD l 3 0) * 256) + (List.getD l 2 0)) * 256) + (List.getD l 1 0)) * 256) + (List.getD l 0 0))), (8, iV 2147483648), (40, .e (.c (.d (D.lit (.bool false)))))]) (g' := []) (nx' := 0) (by kernel_rfl) (by omega) ?_
    refine AW.cond_f (.tmp (Look.of rfl)) ?_
    refine AW.skip ?_
    refine AW.rgs [.no, .no] [4] [] (P := True) (l' := [(4, iV (((((((List.getD l 3 0) * 256) + (List.getD l 2 0)) * 256) + (List.getD l 1 0)) * 256) + (List.getD l 0 0)))]) (g' := []) (nx' := 0) (by kernel_rfl) trivial ?_
    refine AW.ret ?_
    exact EndP.of (.inr rfl) [] (P := (((sgn 2147483648 ((((List.getD l 0 0) + ((List.getD l 1 0) * 256)) + ((List.getD l 2 0) * 65536)) + ((List.getD l 3 0) * 16777216))) : Int) = (((((((List.getD l 3 0) * 256) + (List.getD l 2 0)) * 256) + (List.getD l 1 0)) * 256) + (List.getD l 0 0)))) (by kernel_rfl) (by first | rfl | omega | (unfold sgn; split <;> omega))

set_option maxHeartbeats 4000000 in
set_option maxRecDepth 100000 in
theorem K_int7 (l : List Int) (hn : List.length l = 4) (hb : Byt l) : Fun 32 [.c (.d (D.sl (dI .u8 l) 4)), .c (.d (D.lit (.bool true)))] (toG []) 0 (iV (sgn 2147483648 ((((List.getD l 3 0) + ((List.getD l 2 0) * 256)) + ((List.getD l 1 0) * 65536)) + ((List.getD l 0 0) * 16777216)))) (toG []) 0 := by
  refine Fun.mk (n := 46) Tryd.func32 rfl rfl (Nat.le_of_ble_eq_true rfl) ?_
  intro cx hcx
  refine AW.rgs [.no] [0, 1] [] (P := True) (l' := [(0, .e (.c (.d (D.sl (dI .u8 l) 4)))), (1, .e (.c (.d (D.lit (.bool true)))))]) (g' := []) (nx' := 0) (by kernel_rfl) trivial ?_
  refine AW.rgs [.no] [0, 1, 5] [] (P := True) (l' := [(0, .e (.c (.d (D.sl (dI .u8 l) 4)))), (1, .e (.c (.d (D.lit (.bool true))))), (5, iV 0)]) (g' := []) (nx' := 0) (by kernel_rfl) trivial ?_
  refine AW.seq ?_
  refine AW.rgs [.no, .no, .no] [0, 1, 5, 10, 11] [] (P := True) (l' := [(0, .e (.c (.d (D.sl (dI .u8 l) 4)))), (1, .e (.c (.d (D.lit (.bool true))))), (5, iV 0), (10, iV 4), (11, iV 0)]) (g' := []) (nx' := 0) (by kernel_rfl) trivial ?_
  refine AW.block ?_
  refine AW.rounds 5 ?_
  refine AWr.s ?_
  refine AW.rgs [.b true] [0, 1, 5, 10, 11, 12] [] (P := (((0 : Int) < 4))) (l' := [(0, .e (.c (.d (D.sl (dI .u8 l) 4)))), (1, .e (.c (.d (D.lit (.bool true))))), (5, iV 0), (10, iV 4), (11, iV 0), (12, .e (.c (.d (D.lit (.bool true)))))]) (g' := []) (nx' := 0) (by kernel_rfl) (by omega) ?_
  refine AW.seq ?_
  refine AW.cond_t (.tmp (Look.of rfl)) ?_
  refine AW.skip ?_
  refine AW.seq ?_
  refine AW.block ?_
  refine AW.rgs [.no, .no] [0, 1, 5, 6, 10, 11] [] (P := True) (l' := [(0, .e (.c (.d (D.sl (dI .u8 l) 4)))), (1, .e (.c (.d (D.lit (.bool true))))), (5, iV 0), (6, iV 0), (10, iV 4), (11, iV 0)]) (g' := []) (nx' := 0) (by kernel_rfl) trivial ?_
  have hx1 : 0 ≤ (List.getD l 3 0) ∧ (List.getD l 3 0) ≤ 255 := hb.at 3 (by omega)
  refine AW.rgs [.no, .no, .no, .w, .no, .w, .n 3, .d (D.lit (.int .u8 (List.getD l 3 0))), .no] [0, 1, 5, 6, 7, 10, 11] [] (P := ((-9223372036854775808) ≤ (3 : Int) ∧ (3 : Int) ≤ 9223372036854775807) ∧ ((-9223372036854775808) ≤ (3 : Int) ∧ (3 : Int) ≤ 9223372036854775807) ∧ ((3 : Int) = 3) ∧ ((3 : Nat) < 4) ∧ ((List.drop 3 (dI .u8 l))[0]? = some (D.lit (.int .u8 (List.getD l 3 0))))) (l' := [(0, .e (.c (.d (D.sl (dI .u8 l) 4)))), (1, .e (.c (.d (D.lit (.bool true))))), (5, iV 0), (6, iV 0), (7, .e (.c (.d (D.lit (.int .u8 (List.getD l 3 0)))))), (10, iV 4), (11, iV 0)]) (g' := []) (nx' := 0) (by kernel_rfl) ⟨⟨by omega, by omega⟩, ⟨by omega, by omega⟩, rfl, (by omega), (dI_at _ _ _ (by first | omega | rfl | (rw [dI_len]; omega) | (simp [dI_len] <;> omega)))⟩ ?_
  refine AW.seq ?_
  refine AW.rgs [.no] [0, 1, 5, 6, 7, 10, 11, 22] [] (P := True) (l' := [(0, .e (.c (.d (D.sl (dI .u8 l) 4)))), (1, .e (.c (.d (D.lit (.bool true))))), (5, iV 0), (6, iV 0), (7, .e (.c (.d (D.lit (.int .u8 (List.getD l 3 0)))))), (10, iV 4), (11, iV 0), (22, .e (.c (.d (D.lit (.bool true)))))]) (g' := []) (nx' := 0) (by kernel_rfl) trivial ?_
  refine AW.cond_t (.tmp (Look.of rfl)) ?_
  have hx2 : 0 ≤ (List.getD l 0 0) ∧ (List.getD l 0 0) ≤ 255 := hb.at 0 (by omega)
  refine AW.rg [.no, .no, .n 0, .d (D.lit (.int .u8 (List.getD l 0 0))), .no] [0, 1, 5, 7, 10, 11] [] (P := ((0 : Int) = 0) ∧ ((0 : Nat) < 4) ∧ ((List.drop 0 (dI .u8 l))[0]? = some (D.lit (.int .u8 (List.getD l 0 0))))) (l' := [(0, .e (.c (.d (D.sl (dI .u8 l) 4)))), (1, .e (.c (.d (D.lit (.bool true))))), (5, iV 0), (7, .e (.c (.d (D.lit (.int .u8 (List.getD l 0 0)))))), (10, iV 4), (11, iV 0)]) (g' := []) (nx' := 0) (by kernel_rfl) ⟨rfl, (by omega), (dI_at _ _ _ (by first | omega | rfl | (rw [dI_len]; omega) | (simp [dI_len] <;> omega)))⟩ ?_
  refine AW.rg [.no, .n 8, .no, .w, .i (List.getD l 0 0), .no] [0, 1, 5, 10, 11] [] (P := ((8 : Int) = 8) ∧ ((8 : Nat) ≤ 64) ∧ ((-9223372036854775808) ≤ (0 : Int) ∧ (0 : Int) ≤ 9223372036854775807) ∧ ((-9223372036854775808) ≤ (List.getD l 0 0) ∧ (List.getD l 0 0) ≤ 9223372036854775807) ∧ (bitsI .or .i64 0 (List.getD l 0 0) = (List.getD l 0 0))) (l' := [(0, .e (.c (.d (D.sl (dI .u8 l) 4)))), (1, .e (.c (.d (D.lit (.bool true))))), (5, iV (List.getD l 0 0)), (10, iV 4), (11, iV 0)]) (g' := []) (nx' := 0) (by kernel_rfl) ⟨rfl, (by omega), ⟨by omega, by omega⟩, ⟨by omega, by omega⟩, (or_z .i64 (by simp) (by omega)).1⟩ ?_
  refine AW.rg [.w, .no] [0, 1, 5, 10, 11] [] (P := ((-9223372036854775808) ≤ (1 : Int) ∧ (1 : Int) ≤ 9223372036854775807)) (l' := [(0, .e (.c (.d (D.sl (dI .u8 l) 4)))), (1, .e (.c (.d (D.lit (.bool true))))), (5, iV (List.getD l 0 0)), (10, iV 4), (11, iV 1)]) (g' := []) (nx' := 0) (by kernel_rfl) ⟨by omega, by omega⟩ ?_
  refine AWr.s ?_
  refine AW.rgs [.b true] [0, 1, 5, 10, 11, 12] [] (P := (((1 : Int) < 4))) (l' := [(0, .e (.c (.d (D.sl (dI .u8 l) 4)))), (1, .e (.c (.d (D.lit (.bool true))))), (5, iV (List.getD l 0 0)), (10, iV 4), (11, iV 1), (12, .e (.c (.d (D.lit (.bool true)))))]) (g' := []) (nx' := 0) (by kernel_rfl) (by omega) ?_
  refine AW.seq ?_
  refine AW.cond_t (.tmp (Look.of rfl)) ?_
  refine AW.skip ?_
  refine AW.seq ?_
  refine AW.block ?_
  refine AW.rgs [.no, .no] [0, 1, 5, 6, 10, 11] [] (P := True) (l' := [(0, .e (.c (.d (D.sl (dI .u8 l) 4)))), (1, .e (.c (.d (D.lit (.bool true))))), (5, iV (List.getD l 0 0)), (6, iV 1), (10, iV 4), (11, iV 1)]) (g' := []) (nx' := 0) (by kernel_rfl) trivial ?_
  have hx3 : 0 ≤ (List.getD l 2 0) ∧ (List.getD l 2 0) ≤ 255 := hb.at 2 (by omega)
  refine AW.rgs [.no, .no, .no, .w, .no, .w, .n 2, .d (D.lit (.int .u8 (List.getD l 2 0))), .no] [0, 1, 5, 6, 7, 10, 11] [] (P := ((-9223372036854775808) ≤ (3 : Int) ∧ (3 : Int) ≤ 9223372036854775807) ∧ ((-9223372036854775808) ≤ (2 : Int) ∧ (2 : Int) ≤ 9223372036854775807) ∧ ((2 : Int) = 2) ∧ ((2 : Nat) < 4) ∧ ((List.drop 2 (dI .u8 l))[0]? = some (D.lit (.int .u8 (List.getD l 2 0))))) (l' := [(0, .e (.c (.d (D.sl (dI .u8 l) 4)))), (1, .e (.c (.d (D.lit (.bool true))))), (5, iV (List.getD l 0 0)), (6, iV 1), (7, .e (.c (.d (D.lit (.int .u8 (List.getD l 2 0)))))), (10, iV 4), (11, iV 1)]) (g' := []) (nx' := 0) (by kernel_rfl) ⟨⟨by omega, by omega⟩, ⟨by omega, by omega⟩, rfl, (by omega), (dI_at _ _ _ (by first | omega | rfl | (rw [dI_len]; omega) | (simp [dI_len] <;> omega)))⟩ ?_
  refine AW.seq ?_
  refine AW.rgs [.no] [0, 1, 5, 6, 7, 10, 11, 22] [] (P := True) (l' := [(0, .e (.c (.d (D.sl (dI .u8 l) 4)))), (1, .e (.c (.d (D.lit (.bool true))))), (5, iV (List.getD l 0 0)), (6, iV 1), (7, .e (.c (.d (D.lit (.int .u8 (List.getD l 2 0)))))), (10, iV 4), (11, iV 1), (22, .e (.c (.d (D.lit (.bool true)))))]) (g' := []) (nx' := 0) (by kernel_rfl) trivial ?_
  refine AW.cond_t (.tmp (Look.of rfl)) ?_
  have hx4 : 0 ≤ (List.getD l 1 0) ∧ (List.getD l 1 0) ≤ 255 := hb.at 1 (by omega)
  refine AW.rg [.no, .no, .n 1, .d (D.lit (.int .u8 (List.getD l 1 0))), .no] [0, 1, 5, 7, 10, 11] [] (P := ((1 : Int) = 1) ∧ ((1 : Nat) < 4) ∧ ((List.drop 1 (dI .u8 l))[0]? = some (D.lit (.int .u8 (List.getD l 1 0))))) (l' := [(0, .e (.c (.d (D.sl (dI .u8 l) 4)))), (1, .e (.c (.d (D.lit (.bool true))))), (5, iV (List.getD l 0 0)), (7, .e (.c (.d (D.lit (.int .u8 (List.getD l 1 0)))))), (10, iV 4), (11, iV 1)]) (g' := []) (nx' := 0) (by kernel_rfl) ⟨rfl, (by omega), (dI_at _ _ _ (by first | omega | rfl | (rw [dI_len]; omega) | (simp [dI_len] <;> omega)))⟩ ?_
  refine AW.rg [.no, .n 8, .no, .w, .i (((List.getD l 0 0) * 256) + (List.getD l 1 0)), .no] [0, 1, 5, 10, 11] [] (P := ((8 : Int) = 8) ∧ ((8 : Nat) ≤ 64) ∧ ((-9223372036854775808) ≤ ((List.getD l 0 0) * 256) ∧ ((List.getD l 0 0) * 256) ≤ 9223372036854775807) ∧ ((-9223372036854775808) ≤ (List.getD l 1 0) ∧ (List.getD l 1 0) ≤ 9223372036854775807) ∧ (bitsI .or .i64 ((List.getD l 0 0) * 256) (List.getD l 1 0) = (((List.getD l 0 0) * 256) + (List.getD l 1 0)))) (l' := [(0, .e (.c (.d (D.sl (dI .u8 l) 4)))), (1, .e (.c (.d (D.lit (.bool true))))), (5, iV (((List.getD l 0 0) * 256) + (List.getD l 1 0))), (10, iV 4), (11, iV 1)]) (g' := []) (nx' := 0) (by kernel_rfl) ⟨rfl, (by omega), ⟨by omega, by omega⟩, ⟨by omega, by omega⟩, (or_hi (by simp) (i := 8) 256 (by decide) (by omega) (by omega) (by omega))⟩ ?_
  refine AW.rg [.w, .no] [0, 1, 5, 10, 11] [] (P := ((-9223372036854775808) ≤ (2 : Int) ∧ (2 : Int) ≤ 9223372036854775807)) (l' := [(0, .e (.c (.d (D.sl (dI .u8 l) 4)))), (1, .e (.c (.d (D.lit (.bool true))))), (5, iV (((List.getD l 0 0) * 256) + (List.getD l 1 0))), (10, iV 4), (11, iV 2)]) (g' := []) (nx' := 0) (by kernel_rfl) ⟨by omega, by omega⟩ ?_
  refine AWr.s ?_
  refine AW.rgs [.b true] [0, 1, 5, 10, 11, 12] [] (P := (((2 : Int) < 4))) (l' := [(0, .e (.c (.d (D.sl (dI .u8 l) 4)))), (1, .e (.c (.d (D.lit (.bool true))))), (5, iV (((List.getD l 0 0) * 256) + (List.getD l 1 0))), (10, iV 4), (11, iV 2), (12, .e (.c (.d (D.lit (.bool true)))))]) (g' := []) (nx' := 0) (by kernel_rfl) (by omega) ?_
  refine AW.seq ?_
  refine AW.cond_t (.tmp (Look.of rfl)) ?_
  refine AW.skip ?_
  refine AW.seq ?_
  refine AW.block ?_
  refine AW.rgs [.no, .no] [0, 1, 5, 6, 10, 11] [] (P := True) (l' := [(0, .e (.c (.d (D.sl (dI .u8 l) 4)))), (1, .e (.c (.d (D.lit (.bool true))))), (5, iV (((List.getD l 0 0) * 256) + (List.getD l 1 0))), (6, iV 2), (10, iV 4), (11, iV 2)]) (g' := []) (nx' := 0) (by kernel_rfl) trivial ?_
  have hx5 : 0 ≤ (List.getD l 1 0) ∧ (List.getD l 1 0) ≤ 255 := hb.at 1 (by omega)
  refine AW.rgs [.no, .no, .no, .w, .no, .w, .n 1, .d (D.lit (.int .u8 (List.getD l 1 0))), .no] [0, 1, 5, 6, 7, 10, 11] [] (P := ((-9223372036854775808) ≤ (3 : Int) ∧ (3 : Int) ≤ 9223372036854775807) ∧ ((-9223372036854775808) ≤ (1 : Int) ∧ (1 : Int) ≤ 9223372036854775807) ∧ ((1 : Int) = 1) ∧ ((1 : Nat) < 4) ∧ ((List.drop 1 (dI .u8 l))[0]? = some (D.lit (.int .u8 (List.getD l 1 0))))) (l' := [(0, .e (.c (.d (D.sl (dI .u8 l) 4)))), (1, .e (.c (.d (D.lit (.bool true))))), (5, iV (((List.getD l 0 0) * 256) + (List.getD l 1 0))), (6, iV 2), (7, .e (.c (.d (D.lit (.int .u8 (List.getD l 1 0)))))), (10, iV 4), (11, iV 2)]) (g' := []) (nx' := 0) (by kernel_rfl) ⟨⟨by omega, by omega⟩, ⟨by omega, by omega⟩, rfl, (by omega), (dI_at _ _ _ (by first | omega | rfl | (rw [dI_len]; omega) | (simp [dI_len] <;> omega)))⟩ ?_
  refine AW.seq ?_
  refine AW.rgs [.no] [0, 1, 5, 6, 7, 10, 11, 22] [] (P := True) (l' := [(0, .e (.c (.d (D.sl (dI .u8 l) 4)))), (1, .e (.c (.d (D.lit (.bool true))))), (5, iV (((List.getD l 0 0) * 256) + (List.getD l 1 0))), (6, iV 2), (7, .e (.c (.d (D.lit (.int .u8 (List.getD l 1 0)))))), (10, iV 4), (11, iV 2), (22, .e (.c (.d (D.lit (.bool true)))))]) (g' := []) (nx' := 0) (by kernel_rfl) trivial ?_
  refine AW.cond_t (.tmp (Look.of rfl)) ?_
  have hx6 : 0 ≤ (List.getD l 2 0) ∧ (List.getD l 2 0) ≤ 255 := hb.at 2 (by omega)
  refine AW.rg [.no, .no, .n 2, .d (D.lit (.int .u8 (List.getD l 2 0))), .no] [0, 1, 5, 7, 10, 11] [] (P := ((2 : Int) = 2) ∧ ((2 : Nat) < 4) ∧ ((List.drop 2 (dI .u8 l))[0]? = some (D.lit (.int .u8 (List.getD l 2 0))))) (l' := [(0, .e (.c (.d (D.sl (dI .u8 l) 4)))), (1, .e (.c (.d (D.lit (.bool true))))), (5, iV (((List.getD l 0 0) * 256) + (List.getD l 1 0))), (7, .e (.c (.d (D.lit (.int .u8 (List.getD l 2 0)))))), (10, iV 4), (11, iV 2)]) (g' := []) (nx' := 0) (by kernel_rfl) ⟨rfl, (by omega), (dI_at _ _ _ (by first | omega | rfl | (rw [dI_len]; omega) | (simp [dI_len] <;> omega)))⟩ ?_
  refine AW.rg [.no, .n 8, .no, .w, .i (((((List.getD l 0 0) * 256) + (List.getD l 1 0)) * 256) + (List.getD l 2 0)), .no] [0, 1, 5, 10, 11] [] (P := ((8 : Int) = 8) ∧ ((8 : Nat) ≤ 64) ∧ ((-9223372036854775808) ≤ ((((List.getD l 0 0) * 256) + (List.getD l 1 0)) * 256) ∧ ((((List.getD l 0 0) * 256) + (List.getD l 1 0)) * 256) ≤ 9223372036854775807) ∧ ((-9223372036854775808) ≤ (List.getD l 2 0) ∧ (List.getD l 2 0) ≤ 9223372036854775807) ∧ (bitsI .or .i64 ((((List.getD l 0 0) * 256) + (List.getD l 1 0)) * 256) (List.getD l 2 0) = (((((List.getD l 0 0) * 256) + (List.getD l 1 0)) * 256) + (List.getD l 2 0)))) (l' := [(0, .e (.c (.d (D.sl (dI .u8 l) 4)))), (1, .e (.c (.d (D.lit (.bool true))))), (5, iV (((((List.getD l 0 0) * 256) + (List.getD l 1 0)) * 256) + (List.getD l 2 0))), (10, iV 4), (11, iV 2)]) (g' := []) (nx' := 0) (by kernel_rfl) ⟨rfl, (by omega), ⟨by omega, by omega⟩, ⟨by omega, by omega⟩, (or_hi (by simp) (i := 8) 256 (by decide) (by omega) (by omega) (by omega))⟩ ?_
  refine AW.rg [.w, .no] [0, 1, 5, 10, 11] [] (P := ((-9223372036854775808) ≤ (3 : Int) ∧ (3 : Int) ≤ 9223372036854775807)) (l' := [(0, .e (.c (.d (D.sl (dI .u8 l) 4)))), (1, .e (.c (.d (D.lit (.bool true))))), (5, iV (((((List.getD l 0 0) * 256) + (List.getD l 1 0)) * 256) + (List.getD l 2 0))), (10, iV 4), (11, iV 3)]) (g' := []) (nx' := 0) (by kernel_rfl) ⟨by omega, by omega⟩ ?_
  refine AWr.s ?_
  refine AW.rgs [.b true] [0, 1, 5, 10, 11, 12] [] (P := (((3 : Int) < 4))) (l' := [(0, .e (.c (.d (D.sl (dI .u8 l) 4)))), (1, .e (.c (.d (D.lit (.bool true))))), (5, iV (((((List.getD l 0 0) * 256) + (List.getD l 1 0)) * 256) + (List.getD l 2 0))), (10, iV 4), (11, iV 3), (12, .e (.c (.d (D.lit (.bool true)))))]) (g' := []) (nx' := 0) (by kernel_rfl) (by omega) ?_
  refine AW.seq ?_
  refine AW.cond_t (.tmp (Look.of rfl)) ?_
  refine AW.skip ?_
  refine AW.seq ?_
  refine AW.block ?_
  refine AW.rgs [.no, .no] [0, 1, 5, 6, 10, 11] [] (P := True) (l' := [(0, .e (.c (.d (D.sl (dI .u8 l) 4)))), (1, .e (.c (.d (D.lit (.bool true))))), (5, iV (((((List.getD l 0 0) * 256) + (List.getD l 1 0)) * 256) + (List.getD l 2 0))), (6, iV 3), (10, iV 4), (11, iV 3)]) (g' := []) (nx' := 0) (by kernel_rfl) trivial ?_
  have hx7 : 0 ≤ (List.getD l 0 0) ∧ (List.getD l 0 0) ≤ 255 := hb.at 0 (by omega)
  refine AW.rgs [.no, .no, .no, .w, .no, .w, .n 0, .d (D.lit (.int .u8 (List.getD l 0 0))), .no] [0, 1, 5, 6, 7, 10, 11] [] (P := ((-9223372036854775808) ≤ (3 : Int) ∧ (3 : Int) ≤ 9223372036854775807) ∧ ((-9223372036854775808) ≤ (0 : Int) ∧ (0 : Int) ≤ 9223372036854775807) ∧ ((0 : Int) = 0) ∧ ((0 : Nat) < 4) ∧ ((List.drop 0 (dI .u8 l))[0]? = some (D.lit (.int .u8 (List.getD l 0 0))))) (l' := [(0, .e (.c (.d (D.sl (dI .u8 l) 4)))), (1, .e (.c (.d (D.lit (.bool true))))), (5, iV (((((List.getD l 0 0) * 256) + (List.getD l 1 0)) * 256) + (List.getD l 2 0))), (6, iV 3), (7, .e (.c (.d (D.lit (.int .u8 (List.getD l 0 0)))))), (10, iV 4), (11, iV 3)]) (g' := []) (nx' := 0) (by kernel_rfl) ⟨⟨by omega, by omega⟩, ⟨by omega, by omega⟩, rfl, (by omega), (dI_at _ _ _ (by first | omega | rfl | (rw [dI_len]; omega) | (simp [dI_len] <;> omega)))⟩ ?_
  refine AW.seq ?_
  refine AW.rgs [.no] [0, 1, 5, 6, 7, 10, 11, 22] [] (P := True) (l' := [(0, .e (.c (.d (D.sl (dI .u8 l) 4)))), (1, .e (.c (.d (D.lit (.bool true))))), (5, iV (((((List.getD l 0 0) * 256) + (List.getD l 1 0)) * 256) + (List.getD l 2 0))), (6, iV 3), (7, .e (.c (.d (D.lit (.int .u8 (List.getD l 0 0)))))), (10, iV 4), (11, iV 3), (22, .e (.c (.d (D.lit (.bool true)))))]) (g' := []) (nx' := 0) (by kernel_rfl) trivial ?_
  refine AW.cond_t (.tmp (Look.of rfl)) ?_
  have hx8 : 0 ≤ (List.getD l 3 0) ∧ (List.getD l 3 0) ≤ 255 := hb.at 3 (by omega)
  refine AW.rg [.no, .no, .n 3, .d (D.lit (.int .u8 (List.getD l 3 0))), .no] [0, 1, 5, 7, 10, 11] [] (P := ((3 : Int) = 3) ∧ ((3 : Nat) < 4) ∧ ((List.drop 3 (dI .u8 l))[0]? = some (D.lit (.int .u8 (List.getD l 3 0))))) (l' := [(0, .e (.c (.d (D.sl (dI .u8 l) 4)))), (1, .e (.c (.d (D.lit (.bool true))))), (5, iV (((((List.getD l 0 0) * 256) + (List.getD l 1 0)) * 256) + (List.getD l 2 0))), (7, .e (.c (.d (D.lit (.int .u8 (List.getD l 3 0)))))), (10, iV 4), (11, iV 3)]) (g' := []) (nx' := 0) (by kernel_rfl) ⟨rfl, (by omega), (dI_at _ _ _ (by first | omega | rfl | (rw [dI_len]; omega) | (simp [dI_len] <;> omega)))⟩ ?_
  refine AW.rg [.no, .n 8, .no, .w, .i (((((((List.getD l 0 0) * 256) + (List.getD l 1 0)) * 256) + (List.getD l 2 0)) * 256) + (List.getD l 3 0)), .no] [0, 1, 5, 10, 11] [] (P := ((8 : Int) = 8) ∧ ((8 : Nat) ≤ 64) ∧ ((-9223372036854775808) ≤ ((((((List.getD l 0 0) * 256) + (List.getD l 1 0)) * 256) + (List.getD l 2 0)) * 256) ∧ ((((((List.getD l 0 0) * 256) + (List.getD l 1 0)) * 256) + (List.getD l 2 0)) * 256) ≤ 9223372036854775807) ∧ ((-9223372036854775808) ≤ (List.getD l 3 0) ∧ (List.getD l 3 0) ≤ 9223372036854775807) ∧ (bitsI .or .i64 ((((((List.getD l 0 0) * 256) + (List.getD l 1 0)) * 256) + (List.getD l 2 0)) * 256) (List.getD l 3 0) = (((((((List.getD l 0 0) * 256) + (List.getD l 1 0)) * 256) + (List.getD l 2 0)) * 256) + (List.getD l 3 0)))) (l' := [(0, .e (.c (.d (D.sl (dI .u8 l) 4)))), (1, .e (.c (.d (D.lit (.bool true))))), (5, iV (((((((List.getD l 0 0) * 256) + (List.getD l 1 0)) * 256) + (List.getD l 2 0)) * 256) + (List.getD l 3 0))), (10, iV 4), (11, iV 3)]) (g' := []) (nx' := 0) (by kernel_rfl) ⟨rfl, (by omega), ⟨by omega, by omega⟩, ⟨by omega, by omega⟩, (or_hi (by simp) (i := 8) 256 (by decide) (by omega) (by omega) (by omega))⟩ ?_
  refine AW.rg [.w, .no] [0, 1, 5, 10, 11] [] (P := ((-9223372036854775808) ≤ (4 : Int) ∧ (4 : Int) ≤ 9223372036854775807)) (l' := [(0, .e (.c (.d (D.sl (dI .u8 l) 4)))), (1, .e (.c (.d (D.lit (.bool true))))), (5, iV (((((((List.getD l 0 0) * 256) + (List.getD l 1 0)) * 256) + (List.getD l 2 0)) * 256) + (List.getD l 3 0))), (10, iV 4), (11, iV 4)]) (g' := []) (nx' := 0) (by kernel_rfl) ⟨by omega, by omega⟩ ?_
  refine AWr.s ?_
  refine AW.rgs [.b false] [0, 1, 5, 10, 11, 12] [] (P := (¬ ((4 : Int) < 4))) (l' := [(0, .e (.c (.d (D.sl (dI .u8 l) 4)))), (1, .e (.c (.d (D.lit (.bool true))))), (5, iV (((((((List.getD l 0 0) * 256) + (List.getD l 1 0)) * 256) + (List.getD l 2 0)) * 256) + (List.getD l 3 0))), (10, iV 4), (11, iV 4), (12, .e (.c (.d (D.lit (.bool false)))))]) (g' := []) (nx' := 0) (by kernel_rfl) (by omega) ?_
  refine AW.seq ?_
  refine AW.cond_f (.tmp (Look.of rfl)) ?_
  refine AW.exit ?_
  refine AW.seq ?_
  refine AW.rgs [.no, .no, .w, .w, .n 31, .no] [5, 8] [] (P := ((-9223372036854775808) ≤ (32 : Int) ∧ (32 : Int) ≤ 9223372036854775807) ∧ ((-9223372036854775808) ≤ (31 : Int) ∧ (31 : Int) ≤ 9223372036854775807) ∧ ((31 : Int) = 31) ∧ ((31 : Nat) ≤ 64) ∧ ((-9223372036854775808) ≤ (2147483648 : Int) ∧ (2147483648 : Int) ≤ 9223372036854775807)) (l' := [(5, iV (((((((List.getD l 0 0) * 256) + (List.getD l 1 0)) * 256) + (List.getD l 2 0)) * 256) + (List.getD l 3 0))), (8, iV 2147483648)]) (g' := []) (nx' := 0) (by kernel_rfl) ⟨⟨by omega, by omega⟩, ⟨by omega, by omega⟩, rfl, (by omega), ⟨by omega, by omega⟩⟩ ?_
  by_cases hx9 : ((2147483648 : Int) ≤ (((((((List.getD l 0 0) * 256) + (List.getD l 1 0)) * 256) + (List.getD l 2 0)) * 256) + (List.getD l 3 0)))
  · refine AW.rgs [.no, .no, .b true] [5, 8, 40] [] (P := (((2147483648 : Int) ≤ (((((((List.getD l 0 0) * 256) + (List.getD l 1 0)) * 256) + (List.getD l 2 0)) * 256) + (List.getD l 3 0))))) (l' := [(5, iV (((((((List.getD l 0 0) * 256) + (List.getD l 1 0)) * 256) + (List.getD l 2 0)) * 256) + (List.getD l 3 0))), (8, iV 2147483648), (40, .e (.c (.d (D.lit (.bool true)))))]) (g' := []) (nx' := 0) (by kernel_rfl) (by omega) ?_
    refine AW.cond_t (.tmp (Look.of rfl)) ?_
    refine AW.rg [.no, .no, .w, .w, .no] [5] [] (P := ((-9223372036854775808) ≤ (4294967296 : Int) ∧ (4294967296 : Int) ≤ 9223372036854775807) ∧ ((-9223372036854775808) ≤ ((((((((List.getD l 0 0) * 256) + (List.getD l 1 0)) * 256) + (List.getD l 2 0)) * 256) + (List.getD l 3 0)) - 4294967296) ∧ ((((((((List.getD l 0 0) * 256) + (List.getD l 1 0)) * 256) + (List.getD l 2 0)) * 256) + (List.getD l 3 0)) - 4294967296) ≤ 9223372036854775807)) (l' := [(5, iV ((((((((List.getD l 0 0) * 256) + (List.getD l 1 0)) * 256) + (List.getD l 2 0)) * 256) + (List.getD l 3 0)) - 4294967296))]) (g' := []) (nx' := 0) (by kernel_rfl) ⟨⟨by omega, by omega⟩, ⟨by omega, by omega⟩⟩ ?_
    refine AW.rgs [.no, .no] [4] [] (P := True) (l' := [(4, iV ((((((((List.getD l 0 0) * 256) + (List.getD l 1 0)) * 256) + (List.getD l 2 0)) * 256) + (List.getD l 3 0)) - 4294967296))]) (g' := []) (nx' := 0) (by kernel_rfl) trivial ?_
    refine AW.ret ?_
    exact EndP.of (.inr rfl) [] (P := (((sgn 2147483648 ((((List.getD l 3 0) + ((List.getD l 2 0) * 256)) + ((List.getD l 1 0) * 65536)) + ((List.getD l 0 0) * 16777216))) : Int) = ((((((((List.getD l 0 0) * 256) + (List.getD l 1 0)) * 256) + (List.getD l 2 0)) * 256) + (List.getD l 3 0)) - 4294967296))) (by kernel_rfl) (by first | rfl | omega | (unfold sgn; split <;> omega))
  · refine AW.rgs [.no, .no, .b false] [5, 8, 40] [] (P := (¬ ((2147483648 : Int) ≤ (((((((List.getD l 0 0) * 256) + (List.getD l 1 0)) * 256) + (List.getD l 2 0)) * 256) + (List.getD l 3 0))))) (l' := [(5, iV (((((((List.getD l 0 0) * 256) + (List.getD l 1 0)) * 256) + (List.getD l 2 0)) * 256) + (List.getD l 3 0))), (8, iV 2147483648), (40, .e (.c (.d (D.lit (.bool false)))))]) (g' := []) (nx' := 0) (by kernel_rfl) (by omega) ?_
    refine AW.cond_f (.tmp (Look.of rfl)) ?_
    refine AW.skip ?_
    refine AW.rgs [.no, .no] [4] [] (P := True) (l' := [(4, iV (((((((List.getD l 0 0) * 256) + (List.getD l 1 0)) * 256) + (List.getD l 2 0)) * 256) + (List.getD l 3 0)))]) (g' := []) (nx' := 0) (by kernel_rfl) trivial ?_
    refine AW.ret ?_
    exact EndP.of (.inr rfl) [] (P := (((sgn 2147483648 ((((List.getD l 3 0) + ((List.getD l 2 0) * 256)) + ((List.getD l 1 0) * 65536)) + ((List.getD l 0 0) * 16777216))) : Int) = (((((((List.getD l 0 0) * 256) + (List.getD l 1 0)) * 256) + (List.getD l 2 0)) * 256) + (List.getD l 3 0)))) (by kernel_rfl) (by first | rfl | omega | (unfold sgn; split <;> omega))

set_option maxHeartbeats 4000000 in
set_option maxRecDepth 100000 in
theorem K_number1 (n : Int) (h : -8388608 ≤ n ∧ n ≤ 8388607) : Fun 39 [iE 1, iE n] (toG []) 0 (iV (min (128 + ((n + 32768) / 65536)) 255)) (toG []) 0 := by
  refine Fun.mk (n := 24) Tryd.func39 rfl rfl (Nat.le_of_ble_eq_true rfl) ?_
  intro cx hcx
  refine AW.rgs [.no] [0, 1] [] (P := True) (l' := [(0, iV 1), (1, iV n)]) (g' := []) (nx' := 0) (by kernel_rfl) trivial ?_
  refine AW.seq ?_
  refine AW.rgs [.no] [1, 5] [] (P := True) (l' := [(1, iV n), (5, iV 1)]) (g' := []) (nx' := 0) (by kernel_rfl) trivial ?_
  refine AW.block ?_
  refine AW.rgs [.b true, .no] [1, 5, 6] [] (P := (((1 : Int) = 1))) (l' := [(1, iV n), (5, iV 1), (6, .e (.c (.d (D.lit (.bool true)))))]) (g' := []) (nx' := 0) (by kernel_rfl) (by omega) ?_
  refine AW.cond_t (.tmp (Look.of rfl)) ?_
  refine AW.rgs [.no, .w, .n 16, .w, .no, .no] [4] [] (P := ((-9223372036854775808) ≤ (n + 32768) ∧ (n + 32768) ≤ 9223372036854775807) ∧ ((16 : Int) = 16) ∧ ((16 : Nat) ≤ 64) ∧ ((-9223372036854775808) ≤ (128 + ((n + 32768) / 65536)) ∧ (128 + ((n + 32768) / 65536)) ≤ 9223372036854775807)) (l' := [(4, iV (min 255 (128 + ((n + 32768) / 65536))))]) (g' := []) (nx' := 0) (by kernel_rfl) ⟨⟨by omega, by omega⟩, rfl, (by omega), ⟨by omega, by omega⟩⟩ ?_
  refine AW.ret ?_
  exact EndP.of (.inr rfl) [] (P := (((min (128 + ((n + 32768) / 65536)) 255) : Int) = (min 255 (128 + ((n + 32768) / 65536))))) (by kernel_rfl) (by first | rfl | omega)

set_option maxHeartbeats 4000000 in
set_option maxRecDepth 100000 in
theorem K_number2 (n : Int) (h : -8388608 ≤ n ∧ n ≤ 8388607) : Fun 39 [iE 2, iE n] (toG []) 0 (iV (min ((n + 128) / 256) 32767)) (toG []) 0 := by
  refine Fun.mk (n := 24) Tryd.func39 rfl rfl (Nat.le_of_ble_eq_true rfl) ?_
  intro cx hcx
  refine AW.rgs [.no] [0, 1] [] (P := True) (l' := [(0, iV 2), (1, iV n)]) (g' := []) (nx' := 0) (by kernel_rfl) trivial ?_
  refine AW.seq ?_
  refine AW.rgs [.no] [1, 5] [] (P := True) (l' := [(1, iV n), (5, iV 2)]) (g' := []) (nx' := 0) (by kernel_rfl) trivial ?_
  refine AW.block ?_
  refine AW.rgs [.b false, .no] [1, 5, 6] [] (P := (¬ ((2 : Int) = 1))) (l' := [(1, iV n), (5, iV 2), (6, .e (.c (.d (D.lit (.bool false)))))]) (g' := []) (nx' := 0) (by kernel_rfl) (by omega) ?_
  refine AW.cond_f (.tmp (Look.of rfl)) ?_
  refine AW.rgs [.b true, .no] [1, 5, 13] [] (P := (((2 : Int) = 2))) (l' := [(1, iV n), (5, iV 2), (13, .e (.c (.d (D.lit (.bool true)))))]) (g' := []) (nx' := 0) (by kernel_rfl) (by omega) ?_
  refine AW.cond_t (.tmp (Look.of rfl)) ?_
  refine AW.rgs [.no, .w, .n 8, .no, .no] [4] [] (P := ((-9223372036854775808) ≤ (n + 128) ∧ (n + 128) ≤ 9223372036854775807) ∧ ((8 : Int) = 8) ∧ ((8 : Nat) ≤ 64)) (l' := [(4, iV (min 32767 ((n + 128) / 256)))]) (g' := []) (nx' := 0) (by kernel_rfl) ⟨⟨by omega, by omega⟩, rfl, (by omega)⟩ ?_
  refine AW.ret ?_
  exact EndP.of (.inr rfl) [] (P := (((min ((n + 128) / 256) 32767) : Int) = (min 32767 ((n + 128) / 256)))) (by kernel_rfl) (by first | rfl | omega)

set_option maxHeartbeats 4000000 in
set_option maxRecDepth 100000 in
theorem K_number3 (n : Int) (h : -8388608 ≤ n ∧ n ≤ 8388607) : Fun 39 [iE 3, iE n] (toG []) 0 (iV n) (toG []) 0 := by
  refine Fun.mk (n := 24) Tryd.func39 rfl rfl (Nat.le_of_ble_eq_true rfl) ?_
  intro cx hcx
  refine AW.rgs [.no] [0, 1] [] (P := True) (l' := [(0, iV 3), (1, iV n)]) (g' := []) (nx' := 0) (by kernel_rfl) trivial ?_
  refine AW.seq ?_
  refine AW.rgs [.no] [1, 5] [] (P := True) (l' := [(1, iV n), (5, iV 3)]) (g' := []) (nx' := 0) (by kernel_rfl) trivial ?_
  refine AW.block ?_
  refine AW.rgs [.b false, .no] [1, 5, 6] [] (P := (¬ ((3 : Int) = 1))) (l' := [(1, iV n), (5, iV 3), (6, .e (.c (.d (D.lit (.bool false)))))]) (g' := []) (nx' := 0) (by kernel_rfl) (by omega) ?_
  refine AW.cond_f (.tmp (Look.of rfl)) ?_
  refine AW.rgs [.b false, .no] [1, 5, 13] [] (P := (¬ ((3 : Int) = 2))) (l' := [(1, iV n), (5, iV 3), (13, .e (.c (.d (D.lit (.bool false)))))]) (g' := []) (nx' := 0) (by kernel_rfl) (by omega) ?_
  refine AW.cond_f (.tmp (Look.of rfl)) ?_
  refine AW.rgs [.b false, .no] [1, 19] [] (P := (¬ ((3 : Int) = 4))) (l' := [(1, iV n), (19, .e (.c (.d (D.lit (.bool false)))))]) (g' := []) (nx' := 0) (by kernel_rfl) (by omega) ?_
  refine AW.cond_f (.tmp (Look.of rfl)) ?_
  refine AW.skip ?_
  refine AW.rgs [.no, .no] [4] [] (P := True) (l' := [(4, iV n)]) (g' := []) (nx' := 0) (by kernel_rfl) trivial ?_
  refine AW.ret ?_
  exact EndP.of (.inr rfl) [] (P := ((n : Int) = n)) (by kernel_rfl) rfl

set_option maxHeartbeats 4000000 in
set_option maxRecDepth 100000 in
theorem K_number4 (n : Int) (h : -8388608 ≤ n ∧ n ≤ 8388607) : Fun 39 [iE 4, iE n] (toG []) 0 (iV (n * 256)) (toG []) 0 := by
  refine Fun.mk (n := 24) Tryd.func39 rfl rfl (Nat.le_of_ble_eq_true rfl) ?_
  intro cx hcx
  refine AW.rgs [.no] [0, 1] [] (P := True) (l' := [(0, iV 4), (1, iV n)]) (g' := []) (nx' := 0) (by kernel_rfl) trivial ?_
  refine AW.seq ?_
  refine AW.rgs [.no] [1, 5] [] (P := True) (l' := [(1, iV n), (5, iV 4)]) (g' := []) (nx' := 0) (by kernel_rfl) trivial ?_
  refine AW.block ?_
  refine AW.rgs [.b false, .no] [1, 5, 6] [] (P := (¬ ((4 : Int) = 1))) (l' := [(1, iV n), (5, iV 4), (6, .e (.c (.d (D.lit (.bool false)))))]) (g' := []) (nx' := 0) (by kernel_rfl) (by omega) ?_
  refine AW.cond_f (.tmp (Look.of rfl)) ?_
  refine AW.rgs [.b false, .no] [1, 5, 13] [] (P := (¬ ((4 : Int) = 2))) (l' := [(1, iV n), (5, iV 4), (13, .e (.c (.d (D.lit (.bool false)))))]) (g' := []) (nx' := 0) (by kernel_rfl) (by omega) ?_
  refine AW.cond_f (.tmp (Look.of rfl)) ?_
  refine AW.rgs [.b true, .no] [1, 19] [] (P := (((4 : Int) = 4))) (l' := [(1, iV n), (19, .e (.c (.d (D.lit (.bool true)))))]) (g' := []) (nx' := 0) (by kernel_rfl) (by omega) ?_
  refine AW.cond_t (.tmp (Look.of rfl)) ?_
  refine AW.rgs [.no, .w, .no] [4] [] (P := ((-9223372036854775808) ≤ (n * 256) ∧ (n * 256) ≤ 9223372036854775807)) (l' := [(4, iV (n * 256))]) (g' := []) (nx' := 0) (by kernel_rfl) ⟨by omega, by omega⟩ ?_
  refine AW.ret ?_
  exact EndP.of (.inr rfl) [] (P := (((n * 256) : Int) = (n * 256))) (by kernel_rfl) rfl

end Go.Proofs.YtmdacpepaidkjaaDoor
