/- Laws of samples. No statement is proved here. -/
import Derived.Test.YtmdacpepaidkjaaDoorL04S
import Derived.Test.YtmdacpepaidkjaaDoorAmD
namespace Go.Proofs.YtmdacpepaidkjaaDoor
open Go.ChangeShapes Go.WideShapes Go.ChangeAt Go.RowKit
set_option linter.unusedVariables false
set_option linter.unusedSimpArgs false

theorem Sl.max {k : IntKind} {w : World} {a : Option Addr} {len cap : Nat} {l : List Int} (h : Sl k w a len cap l) : List.length l ≤ 9223372036854775807 := by
  obtain ⟨h1, h2, h3, _⟩ := h
  unfold maxLen at h3
  omega

set_option maxHeartbeats 4000000 in
set_option maxRecDepth 100000 in
theorem K_sane   : Fun 9 [] (toG []) 0 (.e (.c (.d (D.lit (.bool true))))) (toG []) 0 := by
  refine Fun.mk (n := 41) Tryd.func9 rfl rfl (Nat.le_of_ble_eq_true rfl) ?_
  intro cx hcx
  refine AW.rgs [.no] [] [] (P := True) (l' := []) (g' := []) (nx' := 0) (by kernel_rfl) trivial ?_
  have hx1 : ((List.length (encL enc2 ([384, (-129)] : List Int) 2)) = 4) := encL_len enc2_len ([384, (-129)] : List Int) (2 : Nat)
  refine AW.rgs [.no, .call [] (.tup [.c (.own 0 0 4 1 true), iE 0]) [(0, some (5, .ds (dI .u8 ([2, 0, 255, 255] : List Int))))] 1 [none] none, .no, .no, .no, .no, .no] [1, 2] [1] (P := ([D.lit (.int .i32 384), D.lit (.int .i32 (-129))].length = 2 * 1) ∧ (noSlPV (.tup [.c (.own 0 0 4 1 true), iE 0]) = true) ∧ ((dI .u8 ([2, 0, 255, 255] : List Int)).all noSlD = true) ∧ (_)) (l' := [(1, oV 1 0 4 1), (2, iV 0)]) (g' := [(1, some (5, .ds (dI .u8 ([2, 0, 255, 255] : List Int))))]) (nx' := 2) (by kernel_rfl) ⟨(by first | omega | rfl | (rw [dI_len]; omega) | (simp [dI_len] <;> omega)), rfl, (by first | rfl | exact dI_ns _ _), (Fun.cv (K_Encode2 ([384, (-129)] : List Int) 2 rfl (by omega) (by kernel_rfl)) (y' := .tup [.c (.own 0 0 4 1 true), iE 0]) (g1' := toG [(0, some (5, .ds (dI .u8 ([2, 0, 255, 255] : List Int))))]) (by kernel_rfl) (by kernel_rfl))⟩ ?_
  have hx2 : ((List.length (decL dec1 1 ([128] : List Int) 1)) = 1) := decL_len _ _ ([128] : List Int) (1 : Nat)
  refine AW.rgs [.no, .call [] (.tup [.c (.own 0 0 1 1 true), iE 0]) [(0, some (21, .ds (dI .i32 ([0] : List Int))))] 1 [none] none, .no, .no, .no, .no, .no] [1, 2, 3, 4] [1, 3] (P := ([D.lit (.int .u8 128)].length = 1 * 1) ∧ (noSlPV (.tup [.c (.own 0 0 1 1 true), iE 0]) = true) ∧ ((dI .i32 ([0] : List Int)).all noSlD = true) ∧ (_)) (l' := [(1, oV 1 0 4 1), (2, iV 0), (3, oV 3 0 1 1), (4, iV 0)]) (g' := [(1, some (5, .ds (dI .u8 ([2, 0, 255, 255] : List Int)))), (3, some (21, .ds (dI .i32 ([0] : List Int))))]) (nx' := 4) (by kernel_rfl) ⟨(by first | omega | rfl | (rw [dI_len]; omega) | (simp [dI_len] <;> omega)), rfl, (by first | rfl | exact dI_ns _ _), (Fun.cv (K_Decode1 ([128] : List Int) 1 1 rfl rfl rfl (by omega) (Byt.of (by decide))) (y' := .tup [.c (.own 0 0 1 1 true), iE 0]) (g1' := toG [(0, some (21, .ds (dI .i32 ([0] : List Int))))]) (by kernel_rfl) (by kernel_rfl))⟩ ?_
  have hx3 : ((((-8388608) : Int) ≤ (satI 1099511627776)) ∧ ((satI 1099511627776) ≤ 8388607)) := satI_smp (1099511627776 : Int)
  refine AW.rgs [.no, .b true, .no, .no, .st none ([2, 0, 255, 255] : List Int), .b true, .no, .no, .no, .b true, .no, .no, .no, .no, .b true, .no, .no, .no, .n2 0 0, .no, .b true, .no, .no, .call [] (.e (.c (.d (D.lit (.int .i32 8388607))))) [] 0 [] none, .b true, .no, .no] [0] [] (P := (((0 : Int) = 0)) ∧ ((dI .u8 ([2, 0, 255, 255] : List Int)).length = 4 * 1) ∧ (((dI .u8 ([2, 0, 255, 255] : List Int)) : List D) = dI .u8 ([2, 0, 255, 255] : List Int)) ∧ ((ByteArray.toList (strOfNums ([2, 0, 255, 255] : List Int)) == ByteArray.toList (ByteArray.mk #[2, 0, 255, 255])) = true) ∧ (((0 : Int) = 0)) ∧ (((1 : Int) = 1)) ∧ ((0 : Int) = 0) ∧ ((0 : Nat) < 1) ∧ ((0 : Nat) + 0 * 1 = 0) ∧ (((0 : Int) = 0)) ∧ (_) ∧ (((8388607 : Int) = 8388607))) (l' := [(0, .e (.c (.d (D.lit (.bool true)))))]) (g' := []) (nx' := 4) (by kernel_rfl) ⟨(by omega), (by first | omega | rfl | (rw [dI_len]; omega) | (simp [dI_len] <;> omega)), rfl, (by kernel_rfl), (by omega), (by omega), rfl, (by omega), (by omega), (by omega), (Fun.cv (G_Sat 1099511627776 (by omega)) (y' := .e (.c (.d (D.lit (.int .i32 8388607))))) (g1' := toG []) (by kernel_rfl) (by kernel_rfl)), (by omega)⟩ ?_
  refine AW.ret ?_
  exact EndP.of (.inr rfl) [] (P := (true = true)) (by kernel_rfl) rfl

end Go.Proofs.YtmdacpepaidkjaaDoor
