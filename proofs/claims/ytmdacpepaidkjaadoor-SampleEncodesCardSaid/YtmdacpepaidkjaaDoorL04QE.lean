/- Encodings of samples. No statement is proved here. -/
import Derived.Test.YtmdacpepaidkjaaDoorL04K
namespace Go.Proofs.YtmdacpepaidkjaaDoor
open Go.ChangeShapes Go.WideShapes Go.ChangeAt Go.RowKit
set_option linter.unusedVariables false
set_option linter.unusedSimpArgs false

set_option maxHeartbeats 4000000 in
set_option maxRecDepth 100000 in
theorem K_number1 (n : Int) (h : -8388608 ≤ n ∧ n ≤ 8388607) : Fun 39 [iE 1, iE n] (toG []) 0 (iV (min (128 + ((n + 32768) / 65536)) 255)) (toG []) 0 := by
  refine Fun.mk (n := 24) Tryd.func39 rfl rfl (Nat.le_of_ble_eq_true rfl) ?_
  intro cx hcx
  refine AW.rgs [.no] [0, 1] [] (P := True) (l' := [(0, iV 1), (1, iV n)]) (g' := []) (nx' := 0) (by kernel_rfl) trivial ?_
  refine AW.seq ?_
  refine AW.rgs [.no] [1, 5] [] (P := True) (l' := [(1, iV n), (5, iV 1)]) (g' := []) (nx' := 0) (by kernel_rfl) trivial ?_
  refine AW.block ?_
  refine AW.rgs [.b true, .no] [1, 5, 6] [] (P := (((1 : Int) = 1))) (l' := [(1, iV n), (5, iV 1), (6, .e (.c (.d (D.lit (.bool true)))))]) (g' := []) (nx' := 0) (by kernel_rfl) (by omega) ?_
  refine AW.cond_t (.tmp (Look.of rfl)) ?_
  refine AW.rgs [.no, .w, .n 16, .w, .no, .no] [4] [] (P := ((-9223372036854775808) ≤ (n + 32768) ∧ (n + 32768) ≤ 9223372036854775807) ∧ ((16 : Int) = 16) ∧ ((16 : Nat) ≤ 64) ∧ ((-9223372036854775808) ≤ (128 + ((n + 32768) / 65536)) ∧ (128 + ((n + 32768) / 65536)) ≤ 9223372036854775807)) (l' := [(4, iV (min 255 (128 + ((n + 32768) / 65536))))]) (g' := []) (nx' := 0) (by kernel_rfl) ⟨⟨by omega, by omega⟩, rfl, (by omega), ⟨by omega, by omega⟩⟩ ?_
  refine AW.ret ?_
  exact EndP.of (.inr rfl) [] (P := (((min (128 + ((n + 32768) / 65536)) 255) : Int) = (min 255 (128 + ((n + 32768) / 65536))))) (by kernel_rfl) (by first | rfl | omega)

set_option maxHeartbeats 4000000 in
set_option maxRecDepth 100000 in
theorem K_number2 (n : Int) (h : -8388608 ≤ n ∧ n ≤ 8388607) : Fun 39 [iE 2, iE n] (toG []) 0 (iV (min ((n + 128) / 256) 32767)) (toG []) 0 := by
  refine Fun.mk (n := 24) Tryd.func39 rfl rfl (Nat.le_of_ble_eq_true rfl) ?_
  intro cx hcx
  refine AW.rgs [.no] [0, 1] [] (P := True) (l' := [(0, iV 2), (1, iV n)]) (g' := []) (nx' := 0) (by kernel_rfl) trivial ?_
  refine AW.seq ?_
  refine AW.rgs [.no] [1, 5] [] (P := True) (l' := [(1, iV n), (5, iV 2)]) (g' := []) (nx' := 0) (by kernel_rfl) trivial ?_
  refine AW.block ?_
  refine AW.rgs [.b false, .no] [1, 5, 6] [] (P := (¬ ((2 : Int) = 1))) (l' := [(1, iV n), (5, iV 2), (6, .e (.c (.d (D.lit (.bool false)))))]) (g' := []) (nx' := 0) (by kernel_rfl) (by omega) ?_
  refine AW.cond_f (.tmp (Look.of rfl)) ?_
  refine AW.rgs [.b true, .no] [1, 5, 13] [] (P := (((2 : Int) = 2))) (l' := [(1, iV n), (5, iV 2), (13, .e (.c (.d (D.lit (.bool true)))))]) (g' := []) (nx' := 0) (by kernel_rfl) (by omega) ?_
  refine AW.cond_t (.tmp (Look.of rfl)) ?_
  refine AW.rgs [.no, .w, .n 8, .no, .no] [4] [] (P := ((-9223372036854775808) ≤ (n + 128) ∧ (n + 128) ≤ 9223372036854775807) ∧ ((8 : Int) = 8) ∧ ((8 : Nat) ≤ 64)) (l' := [(4, iV (min 32767 ((n + 128) / 256)))]) (g' := []) (nx' := 0) (by kernel_rfl) ⟨⟨by omega, by omega⟩, rfl, (by omega)⟩ ?_
  refine AW.ret ?_
  exact EndP.of (.inr rfl) [] (P := (((min ((n + 128) / 256) 32767) : Int) = (min 32767 ((n + 128) / 256)))) (by kernel_rfl) (by first | rfl | omega)

set_option maxHeartbeats 4000000 in
set_option maxRecDepth 100000 in
theorem K_number3 (n : Int) (h : -8388608 ≤ n ∧ n ≤ 8388607) : Fun 39 [iE 3, iE n] (toG []) 0 (iV n) (toG []) 0 := by
  refine Fun.mk (n := 24) Tryd.func39 rfl rfl (Nat.le_of_ble_eq_true rfl) ?_
  intro cx hcx
  refine AW.rgs [.no] [0, 1] [] (P := True) (l' := [(0, iV 3), (1, iV n)]) (g' := []) (nx' := 0) (by kernel_rfl) trivial ?_
  refine AW.seq ?_
  refine AW.rgs [.no] [1, 5] [] (P := True) (l' := [(1, iV n), (5, iV 3)]) (g' := []) (nx' := 0) (by kernel_rfl) trivial ?_
  refine AW.block ?_
  refine AW.rgs [.b false, .no] [1, 5, 6] [] (P := (¬ ((3 : Int) = 1))) (l' := [(1, iV n), (5, iV 3), (6, .e (.c (.d (D.lit (.bool false)))))]) (g' := []) (nx' := 0) (by kernel_rfl) (by omega) ?_
  refine AW.cond_f (.tmp (Look.of rfl)) ?_
  refine AW.rgs [.b false, .no] [1, 5, 13] [] (P := (¬ ((3 : Int) = 2))) (l' := [(1, iV n), (5, iV 3), (13, .e (.c (.d (D.lit (.bool false)))))]) (g' := []) (nx' := 0) (by kernel_rfl) (by omega) ?_
  refine AW.cond_f (.tmp (Look.of rfl)) ?_
  refine AW.rgs [.b false, .no] [1, 19] [] (P := (¬ ((3 : Int) = 4))) (l' := [(1, iV n), (19, .e (.c (.d (D.lit (.bool false)))))]) (g' := []) (nx' := 0) (by kernel_rfl) (by omega) ?_
  refine AW.cond_f (.tmp (Look.of rfl)) ?_
  refine AW.skip ?_
  refine AW.rgs [.no, .no] [4] [] (P := True) (l' := [(4, iV n)]) (g' := []) (nx' := 0) (by kernel_rfl) trivial ?_
  refine AW.ret ?_
  exact EndP.of (.inr rfl) [] (P := ((n : Int) = n)) (by kernel_rfl) rfl

set_option maxHeartbeats 4000000 in
set_option maxRecDepth 100000 in
theorem K_number4 (n : Int) (h : -8388608 ≤ n ∧ n ≤ 8388607) : Fun 39 [iE 4, iE n] (toG []) 0 (iV (n * 256)) (toG []) 0 := by
  refine Fun.mk (n := 24) Tryd.func39 rfl rfl (Nat.le_of_ble_eq_true rfl) ?_
  intro cx hcx
  refine AW.rgs [.no] [0, 1] [] (P := True) (l' := [(0, iV 4), (1, iV n)]) (g' := []) (nx' := 0) (by kernel_rfl) trivial ?_
  refine AW.seq ?_
  refine AW.rgs [.no] [1, 5] [] (P := True) (l' := [(1, iV n), (5, iV 4)]) (g' := []) (nx' := 0) (by kernel_rfl) trivial ?_
  refine AW.block ?_
  refine AW.rgs [.b false, .no] [1, 5, 6] [] (P := (¬ ((4 : Int) = 1))) (l' := [(1, iV n), (5, iV 4), (6, .e (.c (.d (D.lit (.bool false)))))]) (g' := []) (nx' := 0) (by kernel_rfl) (by omega) ?_
  refine AW.cond_f (.tmp (Look.of rfl)) ?_
  refine AW.rgs [.b false, .no] [1, 5, 13] [] (P := (¬ ((4 : Int) = 2))) (l' := [(1, iV n), (5, iV 4), (13, .e (.c (.d (D.lit (.bool false)))))]) (g' := []) (nx' := 0) (by kernel_rfl) (by omega) ?_
  refine AW.cond_f (.tmp (Look.of rfl)) ?_
  refine AW.rgs [.b true, .no] [1, 19] [] (P := (((4 : Int) = 4))) (l' := [(1, iV n), (19, .e (.c (.d (D.lit (.bool true)))))]) (g' := []) (nx' := 0) (by kernel_rfl) (by omega) ?_
  refine AW.cond_t (.tmp (Look.of rfl)) ?_
  refine AW.rgs [.no, .w, .no] [4] [] (P := ((-9223372036854775808) ≤ (n * 256) ∧ (n * 256) ≤ 9223372036854775807)) (l' := [(4, iV (n * 256))]) (g' := []) (nx' := 0) (by kernel_rfl) ⟨by omega, by omega⟩ ?_
  refine AW.ret ?_
  exact EndP.of (.inr rfl) [] (P := (((n * 256) : Int) = (n * 256))) (by kernel_rfl) rfl

end Go.Proofs.YtmdacpepaidkjaaDoor
