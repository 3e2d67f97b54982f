/- Encodings of samples. No statement is proved here. -/
import Derived.Test.YtigiolfloefjnaaDoorZL04T
namespace Go.Proofs.YtigiolfloefjnaaDoor
open Go.ChangeShapes Go.WideShapes Go.ChangeAt Go.RowKit
set_option linter.unusedVariables false
set_option linter.unusedSimpArgs false
set_option maxHeartbeats 4000000
set_option maxRecDepth 100000
theorem zl04pd0 {p : Prop} (h : p := by first | omega | (rw [dI_len]; omega) | (simp [dI_len] <;> omega) | rfl) : p := h
theorem zl04pd1 {p : Prop} (h : p := by first | rfl | omega | (unfold sgn; split <;> omega)) : p := h
theorem K_get2 (l : List Int) (hn : List.length l = 2) (hb : Byt l) : Fun 74 [.agg [iC 2, .d (D.lit (.bool false))], .c (.d (D.sl (dI .u8 l) 2))] (toG []) 0 (iV (sgn 32768 ((List.getD l 0 0) + ((List.getD l 1 0) * 256)))) (toG []) 0 := by
 refine Fun.mk (n := 41) Tryd.func74 rfl rfl (Nat.le_of_ble_eq_true rfl) ?_
 intro cx hcx
 refine AW.rgs [.no, .no] [1, 2] [0] (P := True) (l' := [(1, .e (.c (.d (D.sl (dI .u8 l) 2)))), (2, rV 0 0)]) (g' := [(0, some (105, .ds [iD 2, D.lit (.bool false)]))]) (nx' := 1) zk trivial ?_
 refine AW.rgs [.no] [1, 2, 5] [0] (P := True) (l' := [(1, .e (.c (.d (D.sl (dI .u8 l) 2)))), (2, rV 0 0), (5, .e (.c (.d (D.lit (.int .u64 0)))))]) (g' := [(0, some (105, .ds [iD 2, D.lit (.bool false)]))]) (nx' := 1) zk trivial ?_
 refine AW.seq ?_
 refine AW.rgs [.no, .no, .no] [1, 2, 5, 9, 10] [0] (P := True) (l' := [(1, .e (.c (.d (D.sl (dI .u8 l) 2)))), (2, rV 0 0), (5, .e (.c (.d (D.lit (.int .u64 0))))), (9, iV 2), (10, iV 0)]) (g' := [(0, some (105, .ds [iD 2, D.lit (.bool false)]))]) (nx' := 1) zk trivial ?_
 refine AW.block ?_
 refine AW.rounds 3 ?_
 refine AWr.s ?_
 refine AW.rgs [.b true] [1, 2, 5, 9, 10, 11] [0] (P := (((0 : Int) < 2))) (l' := [(1, .e (.c (.d (D.sl (dI .u8 l) 2)))), (2, rV 0 0), (5, .e (.c (.d (D.lit (.int .u64 0))))), (9, iV 2), (10, iV 0), (11, .e (.c (.d (D.lit (.bool true)))))]) (g' := [(0, some (105, .ds [iD 2, D.lit (.bool false)]))]) (nx' := 1) zk zo ?_
 refine AW.seq ?_
 refine AW.cond_t (.tmp (Look.of rfl)) ?_
 refine AW.skip ?_
 refine AW.seq ?_
 refine AW.block ?_
 refine AW.rgs [.no, .no] [1, 2, 5, 6, 9, 10] [0] (P := True) (l' := [(1, .e (.c (.d (D.sl (dI .u8 l) 2)))), (2, rV 0 0), (5, .e (.c (.d (D.lit (.int .u64 0))))), (6, iV 0), (9, iV 2), (10, iV 0)]) (g' := [(0, some (105, .ds [iD 2, D.lit (.bool false)]))]) (nx' := 1) zk trivial ?_
 have hx1 : 0 ≤ (List.getD l 0 0) ∧ (List.getD l 0 0) ≤ 255 := hb.at 0 zo
 refine AW.rg [.no, .no, .no, .no, .call [] (iV 0) [] 0 [] none, .n 0, .d (D.lit (.int .u8 (List.getD l 0 0))), .w, .no, .w, .n 0, .i ((List.getD l 0 0) * 1), .no] [1, 2, 5, 9, 10] [0] (P := (_) ∧ ((0 : Int) = 0) ∧ ((0 : Nat) < 2) ∧ ((List.drop 0 (dI .u8 l))[0]? = some (D.lit (.int .u8 (List.getD l 0 0)))) ∧ (0 ≤ (List.getD l 0 0) ∧ (List.getD l 0 0) ≤ 18446744073709551615) ∧ ((-9223372036854775808) ≤ (0 : Int) ∧ (0 : Int) ≤ 9223372036854775807) ∧ ((0 : Int) = 0) ∧ ((0 : Nat) ≤ 64) ∧ (0 ≤ ((List.getD l 0 0) * 1) ∧ ((List.getD l 0 0) * 1) ≤ 18446744073709551615) ∧ (bitsI .or .u64 0 ((List.getD l 0 0) * 1) = ((List.getD l 0 0) * 1))) (l' := [(1, .e (.c (.d (D.sl (dI .u8 l) 2)))), (2, rV 0 0), (5, .e (.c (.d (D.lit (.int .u64 ((List.getD l 0 0) * 1)))))), (9, iV 2), (10, iV 0)]) (g' := [(0, some (105, .ds [iD 2, D.lit (.bool false)]))]) (nx' := 1) zk ⟨(K_place_l 2 0 zo zo), rfl, zo, (dI_at _ _ _ zl04pd0), ⟨by omega, by omega⟩, ⟨by omega, by omega⟩, rfl, zo, ⟨by omega, by omega⟩, (or_z .u64 (by simp) zo).1⟩ ?_
 refine AW.rg [.w, .no] [1, 2, 5, 9, 10] [0] (P := ((-9223372036854775808) ≤ (1 : Int) ∧ (1 : Int) ≤ 9223372036854775807)) (l' := [(1, .e (.c (.d (D.sl (dI .u8 l) 2)))), (2, rV 0 0), (5, .e (.c (.d (D.lit (.int .u64 ((List.getD l 0 0) * 1)))))), (9, iV 2), (10, iV 1)]) (g' := [(0, some (105, .ds [iD 2, D.lit (.bool false)]))]) (nx' := 1) zk ⟨by omega, by omega⟩ ?_
 refine AWr.s ?_
 refine AW.rgs [.b true] [1, 2, 5, 9, 10, 11] [0] (P := (((1 : Int) < 2))) (l' := [(1, .e (.c (.d (D.sl (dI .u8 l) 2)))), (2, rV 0 0), (5, .e (.c (.d (D.lit (.int .u64 ((List.getD l 0 0) * 1)))))), (9, iV 2), (10, iV 1), (11, .e (.c (.d (D.lit (.bool true)))))]) (g' := [(0, some (105, .ds [iD 2, D.lit (.bool false)]))]) (nx' := 1) zk zo ?_
 refine AW.seq ?_
 refine AW.cond_t (.tmp (Look.of rfl)) ?_
 refine AW.skip ?_
 refine AW.seq ?_
 refine AW.block ?_
 refine AW.rgs [.no, .no] [1, 2, 5, 6, 9, 10] [0] (P := True) (l' := [(1, .e (.c (.d (D.sl (dI .u8 l) 2)))), (2, rV 0 0), (5, .e (.c (.d (D.lit (.int .u64 ((List.getD l 0 0) * 1)))))), (6, iV 1), (9, iV 2), (10, iV 1)]) (g' := [(0, some (105, .ds [iD 2, D.lit (.bool false)]))]) (nx' := 1) zk trivial ?_
 have hx2 : 0 ≤ (List.getD l 1 0) ∧ (List.getD l 1 0) ≤ 255 := hb.at 1 zo
 refine AW.rg [.no, .no, .no, .no, .call [] (iV 1) [] 0 [] none, .n 1, .d (D.lit (.int .u8 (List.getD l 1 0))), .w, .no, .w, .n 8, .i (((List.getD l 0 0) * 1) + ((List.getD l 1 0) * 256)), .no] [1, 2, 5, 9, 10] [0] (P := (_) ∧ ((1 : Int) = 1) ∧ ((1 : Nat) < 2) ∧ ((List.drop 1 (dI .u8 l))[0]? = some (D.lit (.int .u8 (List.getD l 1 0)))) ∧ (0 ≤ (List.getD l 1 0) ∧ (List.getD l 1 0) ≤ 18446744073709551615) ∧ ((-9223372036854775808) ≤ (8 : Int) ∧ (8 : Int) ≤ 9223372036854775807) ∧ ((8 : Int) = 8) ∧ ((8 : Nat) ≤ 64) ∧ (0 ≤ ((List.getD l 1 0) * 256) ∧ ((List.getD l 1 0) * 256) ≤ 18446744073709551615) ∧ (bitsI .or .u64 ((List.getD l 0 0) * 1) ((List.getD l 1 0) * 256) = (((List.getD l 0 0) * 1) + ((List.getD l 1 0) * 256)))) (l' := [(1, .e (.c (.d (D.sl (dI .u8 l) 2)))), (2, rV 0 0), (5, .e (.c (.d (D.lit (.int .u64 (((List.getD l 0 0) * 1) + ((List.getD l 1 0) * 256))))))), (9, iV 2), (10, iV 1)]) (g' := [(0, some (105, .ds [iD 2, D.lit (.bool false)]))]) (nx' := 1) zk ⟨(K_place_l 2 1 zo zo), rfl, zo, (dI_at _ _ _ zl04pd0), ⟨by omega, by omega⟩, ⟨by omega, by omega⟩, rfl, zo, ⟨by omega, by omega⟩, (or_lo (by simp) (i := 8) 256 (by decide) zo zo zo)⟩ ?_
 refine AW.rg [.w, .no] [1, 2, 5, 9, 10] [0] (P := ((-9223372036854775808) ≤ (2 : Int) ∧ (2 : Int) ≤ 9223372036854775807)) (l' := [(1, .e (.c (.d (D.sl (dI .u8 l) 2)))), (2, rV 0 0), (5, .e (.c (.d (D.lit (.int .u64 (((List.getD l 0 0) * 1) + ((List.getD l 1 0) * 256))))))), (9, iV 2), (10, iV 2)]) (g' := [(0, some (105, .ds [iD 2, D.lit (.bool false)]))]) (nx' := 1) zk ⟨by omega, by omega⟩ ?_
 refine AWr.s ?_
 refine AW.rgs [.b false] [1, 2, 5, 9, 10, 11] [0] (P := (¬ ((2 : Int) < 2))) (l' := [(1, .e (.c (.d (D.sl (dI .u8 l) 2)))), (2, rV 0 0), (5, .e (.c (.d (D.lit (.int .u64 (((List.getD l 0 0) * 1) + ((List.getD l 1 0) * 256))))))), (9, iV 2), (10, iV 2), (11, .e (.c (.d (D.lit (.bool false)))))]) (g' := [(0, some (105, .ds [iD 2, D.lit (.bool false)]))]) (nx' := 1) zk zo ?_
 refine AW.seq ?_
 refine AW.cond_f (.tmp (Look.of rfl)) ?_
 refine AW.exit ?_
 refine AW.seq ?_
 refine AW.rgs [.no, .no, .b false] [2, 5, 28] [0] (P := (¬ ((2 : Int) = 1))) (l' := [(2, rV 0 0), (5, .e (.c (.d (D.lit (.int .u64 (((List.getD l 0 0) * 1) + ((List.getD l 1 0) * 256))))))), (28, .e (.c (.d (D.lit (.bool false)))))]) (g' := [(0, some (105, .ds [iD 2, D.lit (.bool false)]))]) (nx' := 1) zk zo ?_
 refine AW.cond_f (.tmp (Look.of rfl)) ?_
 refine AW.skip ?_
 refine AW.rgs [.no, .no, .w, .w, .no] [5, 7] [] (P := ((-9223372036854775808) ≤ (16 : Int) ∧ (16 : Int) ≤ 9223372036854775807) ∧ ((-9223372036854775808) ≤ (48 : Int) ∧ (48 : Int) ≤ 9223372036854775807)) (l' := [(5, .e (.c (.d (D.lit (.int .u64 (((List.getD l 0 0) * 1) + ((List.getD l 1 0) * 256))))))), (7, iV 48)]) (g' := []) (nx' := 1) zk ⟨⟨by omega, by omega⟩, ⟨by omega, by omega⟩⟩ ?_
 by_cases hx3 : (((((List.getD l 0 0) * 1) + ((List.getD l 1 0) * 256)) * 281474976710656) ≤ 9223372036854775807)
 ·refine AW.rgs [.no, .no, .n 48, .w, .no, .n 48, .no] [4] [] (P := ((48 : Int) = 48) ∧ ((48 : Nat) ≤ 64) ∧ (0 ≤ ((((List.getD l 0 0) * 1) + ((List.getD l 1 0) * 256)) * 281474976710656) ∧ ((((List.getD l 0 0) * 1) + ((List.getD l 1 0) * 256)) * 281474976710656) ≤ 18446744073709551615) ∧ ((-9223372036854775808) ≤ ((((List.getD l 0 0) * 1) + ((List.getD l 1 0) * 256)) * 281474976710656) ∧ ((((List.getD l 0 0) * 1) + ((List.getD l 1 0) * 256)) * 281474976710656) ≤ 9223372036854775807) ∧ ((48 : Int) = 48) ∧ ((48 : Nat) ≤ 64)) (l' := [(4, iV (((((List.getD l 0 0) * 1) + ((List.getD l 1 0) * 256)) * 281474976710656) / 281474976710656))]) (g' := []) (nx' := 1) zk ⟨rfl, zo, ⟨by omega, by omega⟩, ⟨by omega, by omega⟩, rfl, zo⟩ ?_
  refine AW.ret ?_
  exact EndP.of (.inr rfl) [] (P := (((sgn 32768 ((List.getD l 0 0) + ((List.getD l 1 0) * 256))) : Int) = (((((List.getD l 0 0) * 1) + ((List.getD l 1 0) * 256)) * 281474976710656) / 281474976710656))) zk zl04pd1
 ·refine AW.rgs [.no, .no, .n 48, .i (((((List.getD l 0 0) * 1) + ((List.getD l 1 0) * 256)) * 281474976710656) - 18446744073709551616), .no, .n 48, .no] [4] [] (P := ((48 : Int) = 48) ∧ ((48 : Nat) ≤ 64) ∧ (0 ≤ ((((List.getD l 0 0) * 1) + ((List.getD l 1 0) * 256)) * 281474976710656) ∧ ((((List.getD l 0 0) * 1) + ((List.getD l 1 0) * 256)) * 281474976710656) ≤ 18446744073709551615) ∧ (IntKind.i64.wrap ((((List.getD l 0 0) * 1) + ((List.getD l 1 0) * 256)) * 281474976710656) = (((((List.getD l 0 0) * 1) + ((List.getD l 1 0) * 256)) * 281474976710656) - 18446744073709551616)) ∧ ((48 : Int) = 48) ∧ ((48 : Nat) ≤ 64)) (l' := [(4, iV ((((((List.getD l 0 0) * 1) + ((List.getD l 1 0) * 256)) * 281474976710656) - 18446744073709551616) / 281474976710656))]) (g' := []) (nx' := 1) zk ⟨rfl, zo, ⟨by omega, by omega⟩, (wrap_i64_hi zo), rfl, zo⟩ ?_
  refine AW.ret ?_
  exact EndP.of (.inr rfl) [] (P := (((sgn 32768 ((List.getD l 0 0) + ((List.getD l 1 0) * 256))) : Int) = ((((((List.getD l 0 0) * 1) + ((List.getD l 1 0) * 256)) * 281474976710656) - 18446744073709551616) / 281474976710656))) zk zl04pd1
theorem K_get3 (l : List Int) (hn : List.length l = 2) (hb : Byt l) : Fun 74 [.agg [iC 2, .d (D.lit (.bool true))], .c (.d (D.sl (dI .u8 l) 2))] (toG []) 0 (iV (sgn 32768 ((List.getD l 1 0) + ((List.getD l 0 0) * 256)))) (toG []) 0 := by
 refine Fun.mk (n := 41) Tryd.func74 rfl rfl (Nat.le_of_ble_eq_true rfl) ?_
 intro cx hcx
 refine AW.rgs [.no, .no] [1, 2] [0] (P := True) (l' := [(1, .e (.c (.d (D.sl (dI .u8 l) 2)))), (2, rV 0 0)]) (g' := [(0, some (105, .ds [iD 2, D.lit (.bool true)]))]) (nx' := 1) zk trivial ?_
 refine AW.rgs [.no] [1, 2, 5] [0] (P := True) (l' := [(1, .e (.c (.d (D.sl (dI .u8 l) 2)))), (2, rV 0 0), (5, .e (.c (.d (D.lit (.int .u64 0)))))]) (g' := [(0, some (105, .ds [iD 2, D.lit (.bool true)]))]) (nx' := 1) zk trivial ?_
 refine AW.seq ?_
 refine AW.rgs [.no, .no, .no] [1, 2, 5, 9, 10] [0] (P := True) (l' := [(1, .e (.c (.d (D.sl (dI .u8 l) 2)))), (2, rV 0 0), (5, .e (.c (.d (D.lit (.int .u64 0))))), (9, iV 2), (10, iV 0)]) (g' := [(0, some (105, .ds [iD 2, D.lit (.bool true)]))]) (nx' := 1) zk trivial ?_
 refine AW.block ?_
 refine AW.rounds 3 ?_
 refine AWr.s ?_
 refine AW.rgs [.b true] [1, 2, 5, 9, 10, 11] [0] (P := (((0 : Int) < 2))) (l' := [(1, .e (.c (.d (D.sl (dI .u8 l) 2)))), (2, rV 0 0), (5, .e (.c (.d (D.lit (.int .u64 0))))), (9, iV 2), (10, iV 0), (11, .e (.c (.d (D.lit (.bool true)))))]) (g' := [(0, some (105, .ds [iD 2, D.lit (.bool true)]))]) (nx' := 1) zk zo ?_
 refine AW.seq ?_
 refine AW.cond_t (.tmp (Look.of rfl)) ?_
 refine AW.skip ?_
 refine AW.seq ?_
 refine AW.block ?_
 refine AW.rgs [.no, .no] [1, 2, 5, 6, 9, 10] [0] (P := True) (l' := [(1, .e (.c (.d (D.sl (dI .u8 l) 2)))), (2, rV 0 0), (5, .e (.c (.d (D.lit (.int .u64 0))))), (6, iV 0), (9, iV 2), (10, iV 0)]) (g' := [(0, some (105, .ds [iD 2, D.lit (.bool true)]))]) (nx' := 1) zk trivial ?_
 have hx1 : 0 ≤ (List.getD l 1 0) ∧ (List.getD l 1 0) ≤ 255 := hb.at 1 zo
 refine AW.rg [.no, .no, .no, .no, .call [] (iV 1) [] 0 [] none, .n 1, .d (D.lit (.int .u8 (List.getD l 1 0))), .w, .no, .w, .n 0, .i ((List.getD l 1 0) * 1), .no] [1, 2, 5, 9, 10] [0] (P := (_) ∧ ((1 : Int) = 1) ∧ ((1 : Nat) < 2) ∧ ((List.drop 1 (dI .u8 l))[0]? = some (D.lit (.int .u8 (List.getD l 1 0)))) ∧ (0 ≤ (List.getD l 1 0) ∧ (List.getD l 1 0) ≤ 18446744073709551615) ∧ ((-9223372036854775808) ≤ (0 : Int) ∧ (0 : Int) ≤ 9223372036854775807) ∧ ((0 : Int) = 0) ∧ ((0 : Nat) ≤ 64) ∧ (0 ≤ ((List.getD l 1 0) * 1) ∧ ((List.getD l 1 0) * 1) ≤ 18446744073709551615) ∧ (bitsI .or .u64 0 ((List.getD l 1 0) * 1) = ((List.getD l 1 0) * 1))) (l' := [(1, .e (.c (.d (D.sl (dI .u8 l) 2)))), (2, rV 0 0), (5, .e (.c (.d (D.lit (.int .u64 ((List.getD l 1 0) * 1)))))), (9, iV 2), (10, iV 0)]) (g' := [(0, some (105, .ds [iD 2, D.lit (.bool true)]))]) (nx' := 1) zk ⟨(K_place_b 2 0 zo zo), rfl, zo, (dI_at _ _ _ zl04pd0), ⟨by omega, by omega⟩, ⟨by omega, by omega⟩, rfl, zo, ⟨by omega, by omega⟩, (or_z .u64 (by simp) zo).1⟩ ?_
 refine AW.rg [.w, .no] [1, 2, 5, 9, 10] [0] (P := ((-9223372036854775808) ≤ (1 : Int) ∧ (1 : Int) ≤ 9223372036854775807)) (l' := [(1, .e (.c (.d (D.sl (dI .u8 l) 2)))), (2, rV 0 0), (5, .e (.c (.d (D.lit (.int .u64 ((List.getD l 1 0) * 1)))))), (9, iV 2), (10, iV 1)]) (g' := [(0, some (105, .ds [iD 2, D.lit (.bool true)]))]) (nx' := 1) zk ⟨by omega, by omega⟩ ?_
 refine AWr.s ?_
 refine AW.rgs [.b true] [1, 2, 5, 9, 10, 11] [0] (P := (((1 : Int) < 2))) (l' := [(1, .e (.c (.d (D.sl (dI .u8 l) 2)))), (2, rV 0 0), (5, .e (.c (.d (D.lit (.int .u64 ((List.getD l 1 0) * 1)))))), (9, iV 2), (10, iV 1), (11, .e (.c (.d (D.lit (.bool true)))))]) (g' := [(0, some (105, .ds [iD 2, D.lit (.bool true)]))]) (nx' := 1) zk zo ?_
 refine AW.seq ?_
 refine AW.cond_t (.tmp (Look.of rfl)) ?_
 refine AW.skip ?_
 refine AW.seq ?_
 refine AW.block ?_
 refine AW.rgs [.no, .no] [1, 2, 5, 6, 9, 10] [0] (P := True) (l' := [(1, .e (.c (.d (D.sl (dI .u8 l) 2)))), (2, rV 0 0), (5, .e (.c (.d (D.lit (.int .u64 ((List.getD l 1 0) * 1)))))), (6, iV 1), (9, iV 2), (10, iV 1)]) (g' := [(0, some (105, .ds [iD 2, D.lit (.bool true)]))]) (nx' := 1) zk trivial ?_
 have hx2 : 0 ≤ (List.getD l 0 0) ∧ (List.getD l 0 0) ≤ 255 := hb.at 0 zo
 refine AW.rg [.no, .no, .no, .no, .call [] (iV 0) [] 0 [] none, .n 0, .d (D.lit (.int .u8 (List.getD l 0 0))), .w, .no, .w, .n 8, .i (((List.getD l 1 0) * 1) + ((List.getD l 0 0) * 256)), .no] [1, 2, 5, 9, 10] [0] (P := (_) ∧ ((0 : Int) = 0) ∧ ((0 : Nat) < 2) ∧ ((List.drop 0 (dI .u8 l))[0]? = some (D.lit (.int .u8 (List.getD l 0 0)))) ∧ (0 ≤ (List.getD l 0 0) ∧ (List.getD l 0 0) ≤ 18446744073709551615) ∧ ((-9223372036854775808) ≤ (8 : Int) ∧ (8 : Int) ≤ 9223372036854775807) ∧ ((8 : Int) = 8) ∧ ((8 : Nat) ≤ 64) ∧ (0 ≤ ((List.getD l 0 0) * 256) ∧ ((List.getD l 0 0) * 256) ≤ 18446744073709551615) ∧ (bitsI .or .u64 ((List.getD l 1 0) * 1) ((List.getD l 0 0) * 256) = (((List.getD l 1 0) * 1) + ((List.getD l 0 0) * 256)))) (l' := [(1, .e (.c (.d (D.sl (dI .u8 l) 2)))), (2, rV 0 0), (5, .e (.c (.d (D.lit (.int .u64 (((List.getD l 1 0) * 1) + ((List.getD l 0 0) * 256))))))), (9, iV 2), (10, iV 1)]) (g' := [(0, some (105, .ds [iD 2, D.lit (.bool true)]))]) (nx' := 1) zk ⟨(K_place_b 2 1 zo zo), rfl, zo, (dI_at _ _ _ zl04pd0), ⟨by omega, by omega⟩, ⟨by omega, by omega⟩, rfl, zo, ⟨by omega, by omega⟩, (or_lo (by simp) (i := 8) 256 (by decide) zo zo zo)⟩ ?_
 refine AW.rg [.w, .no] [1, 2, 5, 9, 10] [0] (P := ((-9223372036854775808) ≤ (2 : Int) ∧ (2 : Int) ≤ 9223372036854775807)) (l' := [(1, .e (.c (.d (D.sl (dI .u8 l) 2)))), (2, rV 0 0), (5, .e (.c (.d (D.lit (.int .u64 (((List.getD l 1 0) * 1) + ((List.getD l 0 0) * 256))))))), (9, iV 2), (10, iV 2)]) (g' := [(0, some (105, .ds [iD 2, D.lit (.bool true)]))]) (nx' := 1) zk ⟨by omega, by omega⟩ ?_
 refine AWr.s ?_
 refine AW.rgs [.b false] [1, 2, 5, 9, 10, 11] [0] (P := (¬ ((2 : Int) < 2))) (l' := [(1, .e (.c (.d (D.sl (dI .u8 l) 2)))), (2, rV 0 0), (5, .e (.c (.d (D.lit (.int .u64 (((List.getD l 1 0) * 1) + ((List.getD l 0 0) * 256))))))), (9, iV 2), (10, iV 2), (11, .e (.c (.d (D.lit (.bool false)))))]) (g' := [(0, some (105, .ds [iD 2, D.lit (.bool true)]))]) (nx' := 1) zk zo ?_
 refine AW.seq ?_
 refine AW.cond_f (.tmp (Look.of rfl)) ?_
 refine AW.exit ?_
 refine AW.seq ?_
 refine AW.rgs [.no, .no, .b false] [2, 5, 28] [0] (P := (¬ ((2 : Int) = 1))) (l' := [(2, rV 0 0), (5, .e (.c (.d (D.lit (.int .u64 (((List.getD l 1 0) * 1) + ((List.getD l 0 0) * 256))))))), (28, .e (.c (.d (D.lit (.bool false)))))]) (g' := [(0, some (105, .ds [iD 2, D.lit (.bool true)]))]) (nx' := 1) zk zo ?_
 refine AW.cond_f (.tmp (Look.of rfl)) ?_
 refine AW.skip ?_
 refine AW.rgs [.no, .no, .w, .w, .no] [5, 7] [] (P := ((-9223372036854775808) ≤ (16 : Int) ∧ (16 : Int) ≤ 9223372036854775807) ∧ ((-9223372036854775808) ≤ (48 : Int) ∧ (48 : Int) ≤ 9223372036854775807)) (l' := [(5, .e (.c (.d (D.lit (.int .u64 (((List.getD l 1 0) * 1) + ((List.getD l 0 0) * 256))))))), (7, iV 48)]) (g' := []) (nx' := 1) zk ⟨⟨by omega, by omega⟩, ⟨by omega, by omega⟩⟩ ?_
 by_cases hx3 : (((((List.getD l 1 0) * 1) + ((List.getD l 0 0) * 256)) * 281474976710656) ≤ 9223372036854775807)
 ·refine AW.rgs [.no, .no, .n 48, .w, .no, .n 48, .no] [4] [] (P := ((48 : Int) = 48) ∧ ((48 : Nat) ≤ 64) ∧ (0 ≤ ((((List.getD l 1 0) * 1) + ((List.getD l 0 0) * 256)) * 281474976710656) ∧ ((((List.getD l 1 0) * 1) + ((List.getD l 0 0) * 256)) * 281474976710656) ≤ 18446744073709551615) ∧ ((-9223372036854775808) ≤ ((((List.getD l 1 0) * 1) + ((List.getD l 0 0) * 256)) * 281474976710656) ∧ ((((List.getD l 1 0) * 1) + ((List.getD l 0 0) * 256)) * 281474976710656) ≤ 9223372036854775807) ∧ ((48 : Int) = 48) ∧ ((48 : Nat) ≤ 64)) (l' := [(4, iV (((((List.getD l 1 0) * 1) + ((List.getD l 0 0) * 256)) * 281474976710656) / 281474976710656))]) (g' := []) (nx' := 1) zk ⟨rfl, zo, ⟨by omega, by omega⟩, ⟨by omega, by omega⟩, rfl, zo⟩ ?_
  refine AW.ret ?_
  exact EndP.of (.inr rfl) [] (P := (((sgn 32768 ((List.getD l 1 0) + ((List.getD l 0 0) * 256))) : Int) = (((((List.getD l 1 0) * 1) + ((List.getD l 0 0) * 256)) * 281474976710656) / 281474976710656))) zk zl04pd1
 ·refine AW.rgs [.no, .no, .n 48, .i (((((List.getD l 1 0) * 1) + ((List.getD l 0 0) * 256)) * 281474976710656) - 18446744073709551616), .no, .n 48, .no] [4] [] (P := ((48 : Int) = 48) ∧ ((48 : Nat) ≤ 64) ∧ (0 ≤ ((((List.getD l 1 0) * 1) + ((List.getD l 0 0) * 256)) * 281474976710656) ∧ ((((List.getD l 1 0) * 1) + ((List.getD l 0 0) * 256)) * 281474976710656) ≤ 18446744073709551615) ∧ (IntKind.i64.wrap ((((List.getD l 1 0) * 1) + ((List.getD l 0 0) * 256)) * 281474976710656) = (((((List.getD l 1 0) * 1) + ((List.getD l 0 0) * 256)) * 281474976710656) - 18446744073709551616)) ∧ ((48 : Int) = 48) ∧ ((48 : Nat) ≤ 64)) (l' := [(4, iV ((((((List.getD l 1 0) * 1) + ((List.getD l 0 0) * 256)) * 281474976710656) - 18446744073709551616) / 281474976710656))]) (g' := []) (nx' := 1) zk ⟨rfl, zo, ⟨by omega, by omega⟩, (wrap_i64_hi zo), rfl, zo⟩ ?_
  refine AW.ret ?_
  exact EndP.of (.inr rfl) [] (P := (((sgn 32768 ((List.getD l 1 0) + ((List.getD l 0 0) * 256))) : Int) = ((((((List.getD l 1 0) * 1) + ((List.getD l 0 0) * 256)) * 281474976710656) - 18446744073709551616) / 281474976710656))) zk zl04pd1
theorem K_get4 (l : List Int) (hn : List.length l = 3) (hb : Byt l) : Fun 74 [.agg [iC 3, .d (D.lit (.bool false))], .c (.d (D.sl (dI .u8 l) 3))] (toG []) 0 (iV (sgn 8388608 (((List.getD l 0 0) + ((List.getD l 1 0) * 256)) + ((List.getD l 2 0) * 65536)))) (toG []) 0 := by
 refine Fun.mk (n := 41) Tryd.func74 rfl rfl (Nat.le_of_ble_eq_true rfl) ?_
 intro cx hcx
 refine AW.rgs [.no, .no] [1, 2] [0] (P := True) (l' := [(1, .e (.c (.d (D.sl (dI .u8 l) 3)))), (2, rV 0 0)]) (g' := [(0, some (105, .ds [iD 3, D.lit (.bool false)]))]) (nx' := 1) zk trivial ?_
 refine AW.rgs [.no] [1, 2, 5] [0] (P := True) (l' := [(1, .e (.c (.d (D.sl (dI .u8 l) 3)))), (2, rV 0 0), (5, .e (.c (.d (D.lit (.int .u64 0)))))]) (g' := [(0, some (105, .ds [iD 3, D.lit (.bool false)]))]) (nx' := 1) zk trivial ?_
 refine AW.seq ?_
 refine AW.rgs [.no, .no, .no] [1, 2, 5, 9, 10] [0] (P := True) (l' := [(1, .e (.c (.d (D.sl (dI .u8 l) 3)))), (2, rV 0 0), (5, .e (.c (.d (D.lit (.int .u64 0))))), (9, iV 3), (10, iV 0)]) (g' := [(0, some (105, .ds [iD 3, D.lit (.bool false)]))]) (nx' := 1) zk trivial ?_
 refine AW.block ?_
 refine AW.rounds 4 ?_
 refine AWr.s ?_
 refine AW.rgs [.b true] [1, 2, 5, 9, 10, 11] [0] (P := (((0 : Int) < 3))) (l' := [(1, .e (.c (.d (D.sl (dI .u8 l) 3)))), (2, rV 0 0), (5, .e (.c (.d (D.lit (.int .u64 0))))), (9, iV 3), (10, iV 0), (11, .e (.c (.d (D.lit (.bool true)))))]) (g' := [(0, some (105, .ds [iD 3, D.lit (.bool false)]))]) (nx' := 1) zk zo ?_
 refine AW.seq ?_
 refine AW.cond_t (.tmp (Look.of rfl)) ?_
 refine AW.skip ?_
 refine AW.seq ?_
 refine AW.block ?_
 refine AW.rgs [.no, .no] [1, 2, 5, 6, 9, 10] [0] (P := True) (l' := [(1, .e (.c (.d (D.sl (dI .u8 l) 3)))), (2, rV 0 0), (5, .e (.c (.d (D.lit (.int .u64 0))))), (6, iV 0), (9, iV 3), (10, iV 0)]) (g' := [(0, some (105, .ds [iD 3, D.lit (.bool false)]))]) (nx' := 1) zk trivial ?_
 have hx1 : 0 ≤ (List.getD l 0 0) ∧ (List.getD l 0 0) ≤ 255 := hb.at 0 zo
 refine AW.rg [.no, .no, .no, .no, .call [] (iV 0) [] 0 [] none, .n 0, .d (D.lit (.int .u8 (List.getD l 0 0))), .w, .no, .w, .n 0, .i ((List.getD l 0 0) * 1), .no] [1, 2, 5, 9, 10] [0] (P := (_) ∧ ((0 : Int) = 0) ∧ ((0 : Nat) < 3) ∧ ((List.drop 0 (dI .u8 l))[0]? = some (D.lit (.int .u8 (List.getD l 0 0)))) ∧ (0 ≤ (List.getD l 0 0) ∧ (List.getD l 0 0) ≤ 18446744073709551615) ∧ ((-9223372036854775808) ≤ (0 : Int) ∧ (0 : Int) ≤ 9223372036854775807) ∧ ((0 : Int) = 0) ∧ ((0 : Nat) ≤ 64) ∧ (0 ≤ ((List.getD l 0 0) * 1) ∧ ((List.getD l 0 0) * 1) ≤ 18446744073709551615) ∧ (bitsI .or .u64 0 ((List.getD l 0 0) * 1) = ((List.getD l 0 0) * 1))) (l' := [(1, .e (.c (.d (D.sl (dI .u8 l) 3)))), (2, rV 0 0), (5, .e (.c (.d (D.lit (.int .u64 ((List.getD l 0 0) * 1)))))), (9, iV 3), (10, iV 0)]) (g' := [(0, some (105, .ds [iD 3, D.lit (.bool false)]))]) (nx' := 1) zk ⟨(K_place_l 3 0 zo zo), rfl, zo, (dI_at _ _ _ zl04pd0), ⟨by omega, by omega⟩, ⟨by omega, by omega⟩, rfl, zo, ⟨by omega, by omega⟩, (or_z .u64 (by simp) zo).1⟩ ?_
 refine AW.rg [.w, .no] [1, 2, 5, 9, 10] [0] (P := ((-9223372036854775808) ≤ (1 : Int) ∧ (1 : Int) ≤ 9223372036854775807)) (l' := [(1, .e (.c (.d (D.sl (dI .u8 l) 3)))), (2, rV 0 0), (5, .e (.c (.d (D.lit (.int .u64 ((List.getD l 0 0) * 1)))))), (9, iV 3), (10, iV 1)]) (g' := [(0, some (105, .ds [iD 3, D.lit (.bool false)]))]) (nx' := 1) zk ⟨by omega, by omega⟩ ?_
 refine AWr.s ?_
 refine AW.rgs [.b true] [1, 2, 5, 9, 10, 11] [0] (P := (((1 : Int) < 3))) (l' := [(1, .e (.c (.d (D.sl (dI .u8 l) 3)))), (2, rV 0 0), (5, .e (.c (.d (D.lit (.int .u64 ((List.getD l 0 0) * 1)))))), (9, iV 3), (10, iV 1), (11, .e (.c (.d (D.lit (.bool true)))))]) (g' := [(0, some (105, .ds [iD 3, D.lit (.bool false)]))]) (nx' := 1) zk zo ?_
 refine AW.seq ?_
 refine AW.cond_t (.tmp (Look.of rfl)) ?_
 refine AW.skip ?_
 refine AW.seq ?_
 refine AW.block ?_
 refine AW.rgs [.no, .no] [1, 2, 5, 6, 9, 10] [0] (P := True) (l' := [(1, .e (.c (.d (D.sl (dI .u8 l) 3)))), (2, rV 0 0), (5, .e (.c (.d (D.lit (.int .u64 ((List.getD l 0 0) * 1)))))), (6, iV 1), (9, iV 3), (10, iV 1)]) (g' := [(0, some (105, .ds [iD 3, D.lit (.bool false)]))]) (nx' := 1) zk trivial ?_
 have hx2 : 0 ≤ (List.getD l 1 0) ∧ (List.getD l 1 0) ≤ 255 := hb.at 1 zo
 refine AW.rg [.no, .no, .no, .no, .call [] (iV 1) [] 0 [] none, .n 1, .d (D.lit (.int .u8 (List.getD l 1 0))), .w, .no, .w, .n 8, .i (((List.getD l 0 0) * 1) + ((List.getD l 1 0) * 256)), .no] [1, 2, 5, 9, 10] [0] (P := (_) ∧ ((1 : Int) = 1) ∧ ((1 : Nat) < 3) ∧ ((List.drop 1 (dI .u8 l))[0]? = some (D.lit (.int .u8 (List.getD l 1 0)))) ∧ (0 ≤ (List.getD l 1 0) ∧ (List.getD l 1 0) ≤ 18446744073709551615) ∧ ((-9223372036854775808) ≤ (8 : Int) ∧ (8 : Int) ≤ 9223372036854775807) ∧ ((8 : Int) = 8) ∧ ((8 : Nat) ≤ 64) ∧ (0 ≤ ((List.getD l 1 0) * 256) ∧ ((List.getD l 1 0) * 256) ≤ 18446744073709551615) ∧ (bitsI .or .u64 ((List.getD l 0 0) * 1) ((List.getD l 1 0) * 256) = (((List.getD l 0 0) * 1) + ((List.getD l 1 0) * 256)))) (l' := [(1, .e (.c (.d (D.sl (dI .u8 l) 3)))), (2, rV 0 0), (5, .e (.c (.d (D.lit (.int .u64 (((List.getD l 0 0) * 1) + ((List.getD l 1 0) * 256))))))), (9, iV 3), (10, iV 1)]) (g' := [(0, some (105, .ds [iD 3, D.lit (.bool false)]))]) (nx' := 1) zk ⟨(K_place_l 3 1 zo zo), rfl, zo, (dI_at _ _ _ zl04pd0), ⟨by omega, by omega⟩, ⟨by omega, by omega⟩, rfl, zo, ⟨by omega, by omega⟩, (or_lo (by simp) (i := 8) 256 (by decide) zo zo zo)⟩ ?_
 refine AW.rg [.w, .no] [1, 2, 5, 9, 10] [0] (P := ((-9223372036854775808) ≤ (2 : Int) ∧ (2 : Int) ≤ 9223372036854775807)) (l' := [(1, .e (.c (.d (D.sl (dI .u8 l) 3)))), (2, rV 0 0), (5, .e (.c (.d (D.lit (.int .u64 (((List.getD l 0 0) * 1) + ((List.getD l 1 0) * 256))))))), (9, iV 3), (10, iV 2)]) (g' := [(0, some (105, .ds [iD 3, D.lit (.bool false)]))]) (nx' := 1) zk ⟨by omega, by omega⟩ ?_
 refine AWr.s ?_
 refine AW.rgs [.b true] [1, 2, 5, 9, 10, 11] [0] (P := (((2 : Int) < 3))) (l' := [(1, .e (.c (.d (D.sl (dI .u8 l) 3)))), (2, rV 0 0), (5, .e (.c (.d (D.lit (.int .u64 (((List.getD l 0 0) * 1) + ((List.getD l 1 0) * 256))))))), (9, iV 3), (10, iV 2), (11, .e (.c (.d (D.lit (.bool true)))))]) (g' := [(0, some (105, .ds [iD 3, D.lit (.bool false)]))]) (nx' := 1) zk zo ?_
 refine AW.seq ?_
 refine AW.cond_t (.tmp (Look.of rfl)) ?_
 refine AW.skip ?_
 refine AW.seq ?_
 refine AW.block ?_
 refine AW.rgs [.no, .no] [1, 2, 5, 6, 9, 10] [0] (P := True) (l' := [(1, .e (.c (.d (D.sl (dI .u8 l) 3)))), (2, rV 0 0), (5, .e (.c (.d (D.lit (.int .u64 (((List.getD l 0 0) * 1) + ((List.getD l 1 0) * 256))))))), (6, iV 2), (9, iV 3), (10, iV 2)]) (g' := [(0, some (105, .ds [iD 3, D.lit (.bool false)]))]) (nx' := 1) zk trivial ?_
 have hx3 : 0 ≤ (List.getD l 2 0) ∧ (List.getD l 2 0) ≤ 255 := hb.at 2 zo
 refine AW.rg [.no, .no, .no, .no, .call [] (iV 2) [] 0 [] none, .n 2, .d (D.lit (.int .u8 (List.getD l 2 0))), .w, .no, .w, .n 16, .i ((((List.getD l 0 0) * 1) + ((List.getD l 1 0) * 256)) + ((List.getD l 2 0) * 65536)), .no] [1, 2, 5, 9, 10] [0] (P := (_) ∧ ((2 : Int) = 2) ∧ ((2 : Nat) < 3) ∧ ((List.drop 2 (dI .u8 l))[0]? = some (D.lit (.int .u8 (List.getD l 2 0)))) ∧ (0 ≤ (List.getD l 2 0) ∧ (List.getD l 2 0) ≤ 18446744073709551615) ∧ ((-9223372036854775808) ≤ (16 : Int) ∧ (16 : Int) ≤ 9223372036854775807) ∧ ((16 : Int) = 16) ∧ ((16 : Nat) ≤ 64) ∧ (0 ≤ ((List.getD l 2 0) * 65536) ∧ ((List.getD l 2 0) * 65536) ≤ 18446744073709551615) ∧ (bitsI .or .u64 (((List.getD l 0 0) * 1) + ((List.getD l 1 0) * 256)) ((List.getD l 2 0) * 65536) = ((((List.getD l 0 0) * 1) + ((List.getD l 1 0) * 256)) + ((List.getD l 2 0) * 65536)))) (l' := [(1, .e (.c (.d (D.sl (dI .u8 l) 3)))), (2, rV 0 0), (5, .e (.c (.d (D.lit (.int .u64 ((((List.getD l 0 0) * 1) + ((List.getD l 1 0) * 256)) + ((List.getD l 2 0) * 65536))))))), (9, iV 3), (10, iV 2)]) (g' := [(0, some (105, .ds [iD 3, D.lit (.bool false)]))]) (nx' := 1) zk ⟨(K_place_l 3 2 zo zo), rfl, zo, (dI_at _ _ _ zl04pd0), ⟨by omega, by omega⟩, ⟨by omega, by omega⟩, rfl, zo, ⟨by omega, by omega⟩, (or_lo (by simp) (i := 16) 65536 (by decide) zo zo zo)⟩ ?_
 refine AW.rg [.w, .no] [1, 2, 5, 9, 10] [0] (P := ((-9223372036854775808) ≤ (3 : Int) ∧ (3 : Int) ≤ 9223372036854775807)) (l' := [(1, .e (.c (.d (D.sl (dI .u8 l) 3)))), (2, rV 0 0), (5, .e (.c (.d (D.lit (.int .u64 ((((List.getD l 0 0) * 1) + ((List.getD l 1 0) * 256)) + ((List.getD l 2 0) * 65536))))))), (9, iV 3), (10, iV 3)]) (g' := [(0, some (105, .ds [iD 3, D.lit (.bool false)]))]) (nx' := 1) zk ⟨by omega, by omega⟩ ?_
 refine AWr.s ?_
 refine AW.rgs [.b false] [1, 2, 5, 9, 10, 11] [0] (P := (¬ ((3 : Int) < 3))) (l' := [(1, .e (.c (.d (D.sl (dI .u8 l) 3)))), (2, rV 0 0), (5, .e (.c (.d (D.lit (.int .u64 ((((List.getD l 0 0) * 1) + ((List.getD l 1 0) * 256)) + ((List.getD l 2 0) * 65536))))))), (9, iV 3), (10, iV 3), (11, .e (.c (.d (D.lit (.bool false)))))]) (g' := [(0, some (105, .ds [iD 3, D.lit (.bool false)]))]) (nx' := 1) zk zo ?_
 refine AW.seq ?_
 refine AW.cond_f (.tmp (Look.of rfl)) ?_
 refine AW.exit ?_
 refine AW.seq ?_
 refine AW.rgs [.no, .no, .b false] [2, 5, 28] [0] (P := (¬ ((3 : Int) = 1))) (l' := [(2, rV 0 0), (5, .e (.c (.d (D.lit (.int .u64 ((((List.getD l 0 0) * 1) + ((List.getD l 1 0) * 256)) + ((List.getD l 2 0) * 65536))))))), (28, .e (.c (.d (D.lit (.bool false)))))]) (g' := [(0, some (105, .ds [iD 3, D.lit (.bool false)]))]) (nx' := 1) zk zo ?_
 refine AW.cond_f (.tmp (Look.of rfl)) ?_
 refine AW.skip ?_
 refine AW.rgs [.no, .no, .w, .w, .no] [5, 7] [] (P := ((-9223372036854775808) ≤ (24 : Int) ∧ (24 : Int) ≤ 9223372036854775807) ∧ ((-9223372036854775808) ≤ (40 : Int) ∧ (40 : Int) ≤ 9223372036854775807)) (l' := [(5, .e (.c (.d (D.lit (.int .u64 ((((List.getD l 0 0) * 1) + ((List.getD l 1 0) * 256)) + ((List.getD l 2 0) * 65536))))))), (7, iV 40)]) (g' := []) (nx' := 1) zk ⟨⟨by omega, by omega⟩, ⟨by omega, by omega⟩⟩ ?_
 by_cases hx4 : ((((((List.getD l 0 0) * 1) + ((List.getD l 1 0) * 256)) + ((List.getD l 2 0) * 65536)) * 1099511627776) ≤ 9223372036854775807)
 ·refine AW.rgs [.no, .no, .n 40, .w, .no, .n 40, .no] [4] [] (P := ((40 : Int) = 40) ∧ ((40 : Nat) ≤ 64) ∧ (0 ≤ (((((List.getD l 0 0) * 1) + ((List.getD l 1 0) * 256)) + ((List.getD l 2 0) * 65536)) * 1099511627776) ∧ (((((List.getD l 0 0) * 1) + ((List.getD l 1 0) * 256)) + ((List.getD l 2 0) * 65536)) * 1099511627776) ≤ 18446744073709551615) ∧ ((-9223372036854775808) ≤ (((((List.getD l 0 0) * 1) + ((List.getD l 1 0) * 256)) + ((List.getD l 2 0) * 65536)) * 1099511627776) ∧ (((((List.getD l 0 0) * 1) + ((List.getD l 1 0) * 256)) + ((List.getD l 2 0) * 65536)) * 1099511627776) ≤ 9223372036854775807) ∧ ((40 : Int) = 40) ∧ ((40 : Nat) ≤ 64)) (l' := [(4, iV ((((((List.getD l 0 0) * 1) + ((List.getD l 1 0) * 256)) + ((List.getD l 2 0) * 65536)) * 1099511627776) / 1099511627776))]) (g' := []) (nx' := 1) zk ⟨rfl, zo, ⟨by omega, by omega⟩, ⟨by omega, by omega⟩, rfl, zo⟩ ?_
  refine AW.ret ?_
  exact EndP.of (.inr rfl) [] (P := (((sgn 8388608 (((List.getD l 0 0) + ((List.getD l 1 0) * 256)) + ((List.getD l 2 0) * 65536))) : Int) = ((((((List.getD l 0 0) * 1) + ((List.getD l 1 0) * 256)) + ((List.getD l 2 0) * 65536)) * 1099511627776) / 1099511627776))) zk zl04pd1
 ·refine AW.rgs [.no, .no, .n 40, .i ((((((List.getD l 0 0) * 1) + ((List.getD l 1 0) * 256)) + ((List.getD l 2 0) * 65536)) * 1099511627776) - 18446744073709551616), .no, .n 40, .no] [4] [] (P := ((40 : Int) = 40) ∧ ((40 : Nat) ≤ 64) ∧ (0 ≤ (((((List.getD l 0 0) * 1) + ((List.getD l 1 0) * 256)) + ((List.getD l 2 0) * 65536)) * 1099511627776) ∧ (((((List.getD l 0 0) * 1) + ((List.getD l 1 0) * 256)) + ((List.getD l 2 0) * 65536)) * 1099511627776) ≤ 18446744073709551615) ∧ (IntKind.i64.wrap (((((List.getD l 0 0) * 1) + ((List.getD l 1 0) * 256)) + ((List.getD l 2 0) * 65536)) * 1099511627776) = ((((((List.getD l 0 0) * 1) + ((List.getD l 1 0) * 256)) + ((List.getD l 2 0) * 65536)) * 1099511627776) - 18446744073709551616)) ∧ ((40 : Int) = 40) ∧ ((40 : Nat) ≤ 64)) (l' := [(4, iV (((((((List.getD l 0 0) * 1) + ((List.getD l 1 0) * 256)) + ((List.getD l 2 0) * 65536)) * 1099511627776) - 18446744073709551616) / 1099511627776))]) (g' := []) (nx' := 1) zk ⟨rfl, zo, ⟨by omega, by omega⟩, (wrap_i64_hi zo), rfl, zo⟩ ?_
  refine AW.ret ?_
  exact EndP.of (.inr rfl) [] (P := (((sgn 8388608 (((List.getD l 0 0) + ((List.getD l 1 0) * 256)) + ((List.getD l 2 0) * 65536))) : Int) = (((((((List.getD l 0 0) * 1) + ((List.getD l 1 0) * 256)) + ((List.getD l 2 0) * 65536)) * 1099511627776) - 18446744073709551616) / 1099511627776))) zk zl04pd1
theorem K_get5 (l : List Int) (hn : List.length l = 3) (hb : Byt l) : Fun 74 [.agg [iC 3, .d (D.lit (.bool true))], .c (.d (D.sl (dI .u8 l) 3))] (toG []) 0 (iV (sgn 8388608 (((List.getD l 2 0) + ((List.getD l 1 0) * 256)) + ((List.getD l 0 0) * 65536)))) (toG []) 0 := by
 refine Fun.mk (n := 41) Tryd.func74 rfl rfl (Nat.le_of_ble_eq_true rfl) ?_
 intro cx hcx
 refine AW.rgs [.no, .no] [1, 2] [0] (P := True) (l' := [(1, .e (.c (.d (D.sl (dI .u8 l) 3)))), (2, rV 0 0)]) (g' := [(0, some (105, .ds [iD 3, D.lit (.bool true)]))]) (nx' := 1) zk trivial ?_
 refine AW.rgs [.no] [1, 2, 5] [0] (P := True) (l' := [(1, .e (.c (.d (D.sl (dI .u8 l) 3)))), (2, rV 0 0), (5, .e (.c (.d (D.lit (.int .u64 0)))))]) (g' := [(0, some (105, .ds [iD 3, D.lit (.bool true)]))]) (nx' := 1) zk trivial ?_
 refine AW.seq ?_
 refine AW.rgs [.no, .no, .no] [1, 2, 5, 9, 10] [0] (P := True) (l' := [(1, .e (.c (.d (D.sl (dI .u8 l) 3)))), (2, rV 0 0), (5, .e (.c (.d (D.lit (.int .u64 0))))), (9, iV 3), (10, iV 0)]) (g' := [(0, some (105, .ds [iD 3, D.lit (.bool true)]))]) (nx' := 1) zk trivial ?_
 refine AW.block ?_
 refine AW.rounds 4 ?_
 refine AWr.s ?_
 refine AW.rgs [.b true] [1, 2, 5, 9, 10, 11] [0] (P := (((0 : Int) < 3))) (l' := [(1, .e (.c (.d (D.sl (dI .u8 l) 3)))), (2, rV 0 0), (5, .e (.c (.d (D.lit (.int .u64 0))))), (9, iV 3), (10, iV 0), (11, .e (.c (.d (D.lit (.bool true)))))]) (g' := [(0, some (105, .ds [iD 3, D.lit (.bool true)]))]) (nx' := 1) zk zo ?_
 refine AW.seq ?_
 refine AW.cond_t (.tmp (Look.of rfl)) ?_
 refine AW.skip ?_
 refine AW.seq ?_
 refine AW.block ?_
 refine AW.rgs [.no, .no] [1, 2, 5, 6, 9, 10] [0] (P := True) (l' := [(1, .e (.c (.d (D.sl (dI .u8 l) 3)))), (2, rV 0 0), (5, .e (.c (.d (D.lit (.int .u64 0))))), (6, iV 0), (9, iV 3), (10, iV 0)]) (g' := [(0, some (105, .ds [iD 3, D.lit (.bool true)]))]) (nx' := 1) zk trivial ?_
 have hx1 : 0 ≤ (List.getD l 2 0) ∧ (List.getD l 2 0) ≤ 255 := hb.at 2 zo
 refine AW.rg [.no, .no, .no, .no, .call [] (iV 2) [] 0 [] none, .n 2, .d (D.lit (.int .u8 (List.getD l 2 0))), .w, .no, .w, .n 0, .i ((List.getD l 2 0) * 1), .no] [1, 2, 5, 9, 10] [0] (P := (_) ∧ ((2 : Int) = 2) ∧ ((2 : Nat) < 3) ∧ ((List.drop 2 (dI .u8 l))[0]? = some (D.lit (.int .u8 (List.getD l 2 0)))) ∧ (0 ≤ (List.getD l 2 0) ∧ (List.getD l 2 0) ≤ 18446744073709551615) ∧ ((-9223372036854775808) ≤ (0 : Int) ∧ (0 : Int) ≤ 9223372036854775807) ∧ ((0 : Int) = 0) ∧ ((0 : Nat) ≤ 64) ∧ (0 ≤ ((List.getD l 2 0) * 1) ∧ ((List.getD l 2 0) * 1) ≤ 18446744073709551615) ∧ (bitsI .or .u64 0 ((List.getD l 2 0) * 1) = ((List.getD l 2 0) * 1))) (l' := [(1, .e (.c (.d (D.sl (dI .u8 l) 3)))), (2, rV 0 0), (5, .e (.c (.d (D.lit (.int .u64 ((List.getD l 2 0) * 1)))))), (9, iV 3), (10, iV 0)]) (g' := [(0, some (105, .ds [iD 3, D.lit (.bool true)]))]) (nx' := 1) zk ⟨(K_place_b 3 0 zo zo), rfl, zo, (dI_at _ _ _ zl04pd0), ⟨by omega, by omega⟩, ⟨by omega, by omega⟩, rfl, zo, ⟨by omega, by omega⟩, (or_z .u64 (by simp) zo).1⟩ ?_
 refine AW.rg [.w, .no] [1, 2, 5, 9, 10] [0] (P := ((-9223372036854775808) ≤ (1 : Int) ∧ (1 : Int) ≤ 9223372036854775807)) (l' := [(1, .e (.c (.d (D.sl (dI .u8 l) 3)))), (2, rV 0 0), (5, .e (.c (.d (D.lit (.int .u64 ((List.getD l 2 0) * 1)))))), (9, iV 3), (10, iV 1)]) (g' := [(0, some (105, .ds [iD 3, D.lit (.bool true)]))]) (nx' := 1) zk ⟨by omega, by omega⟩ ?_
 refine AWr.s ?_
 refine AW.rgs [.b true] [1, 2, 5, 9, 10, 11] [0] (P := (((1 : Int) < 3))) (l' := [(1, .e (.c (.d (D.sl (dI .u8 l) 3)))), (2, rV 0 0), (5, .e (.c (.d (D.lit (.int .u64 ((List.getD l 2 0) * 1)))))), (9, iV 3), (10, iV 1), (11, .e (.c (.d (D.lit (.bool true)))))]) (g' := [(0, some (105, .ds [iD 3, D.lit (.bool true)]))]) (nx' := 1) zk zo ?_
 refine AW.seq ?_
 refine AW.cond_t (.tmp (Look.of rfl)) ?_
 refine AW.skip ?_
 refine AW.seq ?_
 refine AW.block ?_
 refine AW.rgs [.no, .no] [1, 2, 5, 6, 9, 10] [0] (P := True) (l' := [(1, .e (.c (.d (D.sl (dI .u8 l) 3)))), (2, rV 0 0), (5, .e (.c (.d (D.lit (.int .u64 ((List.getD l 2 0) * 1)))))), (6, iV 1), (9, iV 3), (10, iV 1)]) (g' := [(0, some (105, .ds [iD 3, D.lit (.bool true)]))]) (nx' := 1) zk trivial ?_
 have hx2 : 0 ≤ (List.getD l 1 0) ∧ (List.getD l 1 0) ≤ 255 := hb.at 1 zo
 refine AW.rg [.no, .no, .no, .no, .call [] (iV 1) [] 0 [] none, .n 1, .d (D.lit (.int .u8 (List.getD l 1 0))), .w, .no, .w, .n 8, .i (((List.getD l 2 0) * 1) + ((List.getD l 1 0) * 256)), .no] [1, 2, 5, 9, 10] [0] (P := (_) ∧ ((1 : Int) = 1) ∧ ((1 : Nat) < 3) ∧ ((List.drop 1 (dI .u8 l))[0]? = some (D.lit (.int .u8 (List.getD l 1 0)))) ∧ (0 ≤ (List.getD l 1 0) ∧ (List.getD l 1 0) ≤ 18446744073709551615) ∧ ((-9223372036854775808) ≤ (8 : Int) ∧ (8 : Int) ≤ 9223372036854775807) ∧ ((8 : Int) = 8) ∧ ((8 : Nat) ≤ 64) ∧ (0 ≤ ((List.getD l 1 0) * 256) ∧ ((List.getD l 1 0) * 256) ≤ 18446744073709551615) ∧ (bitsI .or .u64 ((List.getD l 2 0) * 1) ((List.getD l 1 0) * 256) = (((List.getD l 2 0) * 1) + ((List.getD l 1 0) * 256)))) (l' := [(1, .e (.c (.d (D.sl (dI .u8 l) 3)))), (2, rV 0 0), (5, .e (.c (.d (D.lit (.int .u64 (((List.getD l 2 0) * 1) + ((List.getD l 1 0) * 256))))))), (9, iV 3), (10, iV 1)]) (g' := [(0, some (105, .ds [iD 3, D.lit (.bool true)]))]) (nx' := 1) zk ⟨(K_place_b 3 1 zo zo), rfl, zo, (dI_at _ _ _ zl04pd0), ⟨by omega, by omega⟩, ⟨by omega, by omega⟩, rfl, zo, ⟨by omega, by omega⟩, (or_lo (by simp) (i := 8) 256 (by decide) zo zo zo)⟩ ?_
 refine AW.rg [.w, .no] [1, 2, 5, 9, 10] [0] (P := ((-9223372036854775808) ≤ (2 : Int) ∧ (2 : Int) ≤ 9223372036854775807)) (l' := [(1, .e (.c (.d (D.sl (dI .u8 l) 3)))), (2, rV 0 0), (5, .e (.c (.d (D.lit (.int .u64 (((List.getD l 2 0) * 1) + ((List.getD l 1 0) * 256))))))), (9, iV 3), (10, iV 2)]) (g' := [(0, some (105, .ds [iD 3, D.lit (.bool true)]))]) (nx' := 1) zk ⟨by omega, by omega⟩ ?_
 refine AWr.s ?_
 refine AW.rgs [.b true] [1, 2, 5, 9, 10, 11] [0] (P := (((2 : Int) < 3))) (l' := [(1, .e (.c (.d (D.sl (dI .u8 l) 3)))), (2, rV 0 0), (5, .e (.c (.d (D.lit (.int .u64 (((List.getD l 2 0) * 1) + ((List.getD l 1 0) * 256))))))), (9, iV 3), (10, iV 2), (11, .e (.c (.d (D.lit (.bool true)))))]) (g' := [(0, some (105, .ds [iD 3, D.lit (.bool true)]))]) (nx' := 1) zk zo ?_
 refine AW.seq ?_
 refine AW.cond_t (.tmp (Look.of rfl)) ?_
 refine AW.skip ?_
 refine AW.seq ?_
 refine AW.block ?_
 refine AW.rgs [.no, .no] [1, 2, 5, 6, 9, 10] [0] (P := True) (l' := [(1, .e (.c (.d (D.sl (dI .u8 l) 3)))), (2, rV 0 0), (5, .e (.c (.d (D.lit (.int .u64 (((List.getD l 2 0) * 1) + ((List.getD l 1 0) * 256))))))), (6, iV 2), (9, iV 3), (10, iV 2)]) (g' := [(0, some (105, .ds [iD 3, D.lit (.bool true)]))]) (nx' := 1) zk trivial ?_
 have hx3 : 0 ≤ (List.getD l 0 0) ∧ (List.getD l 0 0) ≤ 255 := hb.at 0 zo
 refine AW.rg [.no, .no, .no, .no, .call [] (iV 0) [] 0 [] none, .n 0, .d (D.lit (.int .u8 (List.getD l 0 0))), .w, .no, .w, .n 16, .i ((((List.getD l 2 0) * 1) + ((List.getD l 1 0) * 256)) + ((List.getD l 0 0) * 65536)), .no] [1, 2, 5, 9, 10] [0] (P := (_) ∧ ((0 : Int) = 0) ∧ ((0 : Nat) < 3) ∧ ((List.drop 0 (dI .u8 l))[0]? = some (D.lit (.int .u8 (List.getD l 0 0)))) ∧ (0 ≤ (List.getD l 0 0) ∧ (List.getD l 0 0) ≤ 18446744073709551615) ∧ ((-9223372036854775808) ≤ (16 : Int) ∧ (16 : Int) ≤ 9223372036854775807) ∧ ((16 : Int) = 16) ∧ ((16 : Nat) ≤ 64) ∧ (0 ≤ ((List.getD l 0 0) * 65536) ∧ ((List.getD l 0 0) * 65536) ≤ 18446744073709551615) ∧ (bitsI .or .u64 (((List.getD l 2 0) * 1) + ((List.getD l 1 0) * 256)) ((List.getD l 0 0) * 65536) = ((((List.getD l 2 0) * 1) + ((List.getD l 1 0) * 256)) + ((List.getD l 0 0) * 65536)))) (l' := [(1, .e (.c (.d (D.sl (dI .u8 l) 3)))), (2, rV 0 0), (5, .e (.c (.d (D.lit (.int .u64 ((((List.getD l 2 0) * 1) + ((List.getD l 1 0) * 256)) + ((List.getD l 0 0) * 65536))))))), (9, iV 3), (10, iV 2)]) (g' := [(0, some (105, .ds [iD 3, D.lit (.bool true)]))]) (nx' := 1) zk ⟨(K_place_b 3 2 zo zo), rfl, zo, (dI_at _ _ _ zl04pd0), ⟨by omega, by omega⟩, ⟨by omega, by omega⟩, rfl, zo, ⟨by omega, by omega⟩, (or_lo (by simp) (i := 16) 65536 (by decide) zo zo zo)⟩ ?_
 refine AW.rg [.w, .no] [1, 2, 5, 9, 10] [0] (P := ((-9223372036854775808) ≤ (3 : Int) ∧ (3 : Int) ≤ 9223372036854775807)) (l' := [(1, .e (.c (.d (D.sl (dI .u8 l) 3)))), (2, rV 0 0), (5, .e (.c (.d (D.lit (.int .u64 ((((List.getD l 2 0) * 1) + ((List.getD l 1 0) * 256)) + ((List.getD l 0 0) * 65536))))))), (9, iV 3), (10, iV 3)]) (g' := [(0, some (105, .ds [iD 3, D.lit (.bool true)]))]) (nx' := 1) zk ⟨by omega, by omega⟩ ?_
 refine AWr.s ?_
 refine AW.rgs [.b false] [1, 2, 5, 9, 10, 11] [0] (P := (¬ ((3 : Int) < 3))) (l' := [(1, .e (.c (.d (D.sl (dI .u8 l) 3)))), (2, rV 0 0), (5, .e (.c (.d (D.lit (.int .u64 ((((List.getD l 2 0) * 1) + ((List.getD l 1 0) * 256)) + ((List.getD l 0 0) * 65536))))))), (9, iV 3), (10, iV 3), (11, .e (.c (.d (D.lit (.bool false)))))]) (g' := [(0, some (105, .ds [iD 3, D.lit (.bool true)]))]) (nx' := 1) zk zo ?_
 refine AW.seq ?_
 refine AW.cond_f (.tmp (Look.of rfl)) ?_
 refine AW.exit ?_
 refine AW.seq ?_
 refine AW.rgs [.no, .no, .b false] [2, 5, 28] [0] (P := (¬ ((3 : Int) = 1))) (l' := [(2, rV 0 0), (5, .e (.c (.d (D.lit (.int .u64 ((((List.getD l 2 0) * 1) + ((List.getD l 1 0) * 256)) + ((List.getD l 0 0) * 65536))))))), (28, .e (.c (.d (D.lit (.bool false)))))]) (g' := [(0, some (105, .ds [iD 3, D.lit (.bool true)]))]) (nx' := 1) zk zo ?_
 refine AW.cond_f (.tmp (Look.of rfl)) ?_
 refine AW.skip ?_
 refine AW.rgs [.no, .no, .w, .w, .no] [5, 7] [] (P := ((-9223372036854775808) ≤ (24 : Int) ∧ (24 : Int) ≤ 9223372036854775807) ∧ ((-9223372036854775808) ≤ (40 : Int) ∧ (40 : Int) ≤ 9223372036854775807)) (l' := [(5, .e (.c (.d (D.lit (.int .u64 ((((List.getD l 2 0) * 1) + ((List.getD l 1 0) * 256)) + ((List.getD l 0 0) * 65536))))))), (7, iV 40)]) (g' := []) (nx' := 1) zk ⟨⟨by omega, by omega⟩, ⟨by omega, by omega⟩⟩ ?_
 by_cases hx4 : ((((((List.getD l 2 0) * 1) + ((List.getD l 1 0) * 256)) + ((List.getD l 0 0) * 65536)) * 1099511627776) ≤ 9223372036854775807)
 ·refine AW.rgs [.no, .no, .n 40, .w, .no, .n 40, .no] [4] [] (P := ((40 : Int) = 40) ∧ ((40 : Nat) ≤ 64) ∧ (0 ≤ (((((List.getD l 2 0) * 1) + ((List.getD l 1 0) * 256)) + ((List.getD l 0 0) * 65536)) * 1099511627776) ∧ (((((List.getD l 2 0) * 1) + ((List.getD l 1 0) * 256)) + ((List.getD l 0 0) * 65536)) * 1099511627776) ≤ 18446744073709551615) ∧ ((-9223372036854775808) ≤ (((((List.getD l 2 0) * 1) + ((List.getD l 1 0) * 256)) + ((List.getD l 0 0) * 65536)) * 1099511627776) ∧ (((((List.getD l 2 0) * 1) + ((List.getD l 1 0) * 256)) + ((List.getD l 0 0) * 65536)) * 1099511627776) ≤ 9223372036854775807) ∧ ((40 : Int) = 40) ∧ ((40 : Nat) ≤ 64)) (l' := [(4, iV ((((((List.getD l 2 0) * 1) + ((List.getD l 1 0) * 256)) + ((List.getD l 0 0) * 65536)) * 1099511627776) / 1099511627776))]) (g' := []) (nx' := 1) zk ⟨rfl, zo, ⟨by omega, by omega⟩, ⟨by omega, by omega⟩, rfl, zo⟩ ?_
  refine AW.ret ?_
  exact EndP.of (.inr rfl) [] (P := (((sgn 8388608 (((List.getD l 2 0) + ((List.getD l 1 0) * 256)) + ((List.getD l 0 0) * 65536))) : Int) = ((((((List.getD l 2 0) * 1) + ((List.getD l 1 0) * 256)) + ((List.getD l 0 0) * 65536)) * 1099511627776) / 1099511627776))) zk zl04pd1
 ·refine AW.rgs [.no, .no, .n 40, .i ((((((List.getD l 2 0) * 1) + ((List.getD l 1 0) * 256)) + ((List.getD l 0 0) * 65536)) * 1099511627776) - 18446744073709551616), .no, .n 40, .no] [4] [] (P := ((40 : Int) = 40) ∧ ((40 : Nat) ≤ 64) ∧ (0 ≤ (((((List.getD l 2 0) * 1) + ((List.getD l 1 0) * 256)) + ((List.getD l 0 0) * 65536)) * 1099511627776) ∧ (((((List.getD l 2 0) * 1) + ((List.getD l 1 0) * 256)) + ((List.getD l 0 0) * 65536)) * 1099511627776) ≤ 18446744073709551615) ∧ (IntKind.i64.wrap (((((List.getD l 2 0) * 1) + ((List.getD l 1 0) * 256)) + ((List.getD l 0 0) * 65536)) * 1099511627776) = ((((((List.getD l 2 0) * 1) + ((List.getD l 1 0) * 256)) + ((List.getD l 0 0) * 65536)) * 1099511627776) - 18446744073709551616)) ∧ ((40 : Int) = 40) ∧ ((40 : Nat) ≤ 64)) (l' := [(4, iV (((((((List.getD l 2 0) * 1) + ((List.getD l 1 0) * 256)) + ((List.getD l 0 0) * 65536)) * 1099511627776) - 18446744073709551616) / 1099511627776))]) (g' := []) (nx' := 1) zk ⟨rfl, zo, ⟨by omega, by omega⟩, (wrap_i64_hi zo), rfl, zo⟩ ?_
  refine AW.ret ?_
  exact EndP.of (.inr rfl) [] (P := (((sgn 8388608 (((List.getD l 2 0) + ((List.getD l 1 0) * 256)) + ((List.getD l 0 0) * 65536))) : Int) = (((((((List.getD l 2 0) * 1) + ((List.getD l 1 0) * 256)) + ((List.getD l 0 0) * 65536)) * 1099511627776) - 18446744073709551616) / 1099511627776))) zk zl04pd1
theorem K_get6 (l : List Int) (hn : List.length l = 4) (hb : Byt l) : Fun 74 [.agg [iC 4, .d (D.lit (.bool false))], .c (.d (D.sl (dI .u8 l) 4))] (toG []) 0 (iV (sgn 2147483648 ((((List.getD l 0 0) + ((List.getD l 1 0) * 256)) + ((List.getD l 2 0) * 65536)) + ((List.getD l 3 0) * 16777216)))) (toG []) 0 := by
 refine Fun.mk (n := 41) Tryd.func74 rfl rfl (Nat.le_of_ble_eq_true rfl) ?_
 intro cx hcx
 refine AW.rgs [.no, .no] [1, 2] [0] (P := True) (l' := [(1, .e (.c (.d (D.sl (dI .u8 l) 4)))), (2, rV 0 0)]) (g' := [(0, some (105, .ds [iD 4, D.lit (.bool false)]))]) (nx' := 1) zk trivial ?_
 refine AW.rgs [.no] [1, 2, 5] [0] (P := True) (l' := [(1, .e (.c (.d (D.sl (dI .u8 l) 4)))), (2, rV 0 0), (5, .e (.c (.d (D.lit (.int .u64 0)))))]) (g' := [(0, some (105, .ds [iD 4, D.lit (.bool false)]))]) (nx' := 1) zk trivial ?_
 refine AW.seq ?_
 refine AW.rgs [.no, .no, .no] [1, 2, 5, 9, 10] [0] (P := True) (l' := [(1, .e (.c (.d (D.sl (dI .u8 l) 4)))), (2, rV 0 0), (5, .e (.c (.d (D.lit (.int .u64 0))))), (9, iV 4), (10, iV 0)]) (g' := [(0, some (105, .ds [iD 4, D.lit (.bool false)]))]) (nx' := 1) zk trivial ?_
 refine AW.block ?_
 refine AW.rounds 5 ?_
 refine AWr.s ?_
 refine AW.rgs [.b true] [1, 2, 5, 9, 10, 11] [0] (P := (((0 : Int) < 4))) (l' := [(1, .e (.c (.d (D.sl (dI .u8 l) 4)))), (2, rV 0 0), (5, .e (.c (.d (D.lit (.int .u64 0))))), (9, iV 4), (10, iV 0), (11, .e (.c (.d (D.lit (.bool true)))))]) (g' := [(0, some (105, .ds [iD 4, D.lit (.bool false)]))]) (nx' := 1) zk zo ?_
 refine AW.seq ?_
 refine AW.cond_t (.tmp (Look.of rfl)) ?_
 refine AW.skip ?_
 refine AW.seq ?_
 refine AW.block ?_
 refine AW.rgs [.no, .no] [1, 2, 5, 6, 9, 10] [0] (P := True) (l' := [(1, .e (.c (.d (D.sl (dI .u8 l) 4)))), (2, rV 0 0), (5, .e (.c (.d (D.lit (.int .u64 0))))), (6, iV 0), (9, iV 4), (10, iV 0)]) (g' := [(0, some (105, .ds [iD 4, D.lit (.bool false)]))]) (nx' := 1) zk trivial ?_
 have hx1 : 0 ≤ (List.getD l 0 0) ∧ (List.getD l 0 0) ≤ 255 := hb.at 0 zo
 refine AW.rg [.no, .no, .no, .no, .call [] (iV 0) [] 0 [] none, .n 0, .d (D.lit (.int .u8 (List.getD l 0 0))), .w, .no, .w, .n 0, .i ((List.getD l 0 0) * 1), .no] [1, 2, 5, 9, 10] [0] (P := (_) ∧ ((0 : Int) = 0) ∧ ((0 : Nat) < 4) ∧ ((List.drop 0 (dI .u8 l))[0]? = some (D.lit (.int .u8 (List.getD l 0 0)))) ∧ (0 ≤ (List.getD l 0 0) ∧ (List.getD l 0 0) ≤ 18446744073709551615) ∧ ((-9223372036854775808) ≤ (0 : Int) ∧ (0 : Int) ≤ 9223372036854775807) ∧ ((0 : Int) = 0) ∧ ((0 : Nat) ≤ 64) ∧ (0 ≤ ((List.getD l 0 0) * 1) ∧ ((List.getD l 0 0) * 1) ≤ 18446744073709551615) ∧ (bitsI .or .u64 0 ((List.getD l 0 0) * 1) = ((List.getD l 0 0) * 1))) (l' := [(1, .e (.c (.d (D.sl (dI .u8 l) 4)))), (2, rV 0 0), (5, .e (.c (.d (D.lit (.int .u64 ((List.getD l 0 0) * 1)))))), (9, iV 4), (10, iV 0)]) (g' := [(0, some (105, .ds [iD 4, D.lit (.bool false)]))]) (nx' := 1) zk ⟨(K_place_l 4 0 zo zo), rfl, zo, (dI_at _ _ _ zl04pd0), ⟨by omega, by omega⟩, ⟨by omega, by omega⟩, rfl, zo, ⟨by omega, by omega⟩, (or_z .u64 (by simp) zo).1⟩ ?_
 refine AW.rg [.w, .no] [1, 2, 5, 9, 10] [0] (P := ((-9223372036854775808) ≤ (1 : Int) ∧ (1 : Int) ≤ 9223372036854775807)) (l' := [(1, .e (.c (.d (D.sl (dI .u8 l) 4)))), (2, rV 0 0), (5, .e (.c (.d (D.lit (.int .u64 ((List.getD l 0 0) * 1)))))), (9, iV 4), (10, iV 1)]) (g' := [(0, some (105, .ds [iD 4, D.lit (.bool false)]))]) (nx' := 1) zk ⟨by omega, by omega⟩ ?_
 refine AWr.s ?_
 refine AW.rgs [.b true] [1, 2, 5, 9, 10, 11] [0] (P := (((1 : Int) < 4))) (l' := [(1, .e (.c (.d (D.sl (dI .u8 l) 4)))), (2, rV 0 0), (5, .e (.c (.d (D.lit (.int .u64 ((List.getD l 0 0) * 1)))))), (9, iV 4), (10, iV 1), (11, .e (.c (.d (D.lit (.bool true)))))]) (g' := [(0, some (105, .ds [iD 4, D.lit (.bool false)]))]) (nx' := 1) zk zo ?_
 refine AW.seq ?_
 refine AW.cond_t (.tmp (Look.of rfl)) ?_
 refine AW.skip ?_
 refine AW.seq ?_
 refine AW.block ?_
 refine AW.rgs [.no, .no] [1, 2, 5, 6, 9, 10] [0] (P := True) (l' := [(1, .e (.c (.d (D.sl (dI .u8 l) 4)))), (2, rV 0 0), (5, .e (.c (.d (D.lit (.int .u64 ((List.getD l 0 0) * 1)))))), (6, iV 1), (9, iV 4), (10, iV 1)]) (g' := [(0, some (105, .ds [iD 4, D.lit (.bool false)]))]) (nx' := 1) zk trivial ?_
 have hx2 : 0 ≤ (List.getD l 1 0) ∧ (List.getD l 1 0) ≤ 255 := hb.at 1 zo
 refine AW.rg [.no, .no, .no, .no, .call [] (iV 1) [] 0 [] none, .n 1, .d (D.lit (.int .u8 (List.getD l 1 0))), .w, .no, .w, .n 8, .i (((List.getD l 0 0) * 1) + ((List.getD l 1 0) * 256)), .no] [1, 2, 5, 9, 10] [0] (P := (_) ∧ ((1 : Int) = 1) ∧ ((1 : Nat) < 4) ∧ ((List.drop 1 (dI .u8 l))[0]? = some (D.lit (.int .u8 (List.getD l 1 0)))) ∧ (0 ≤ (List.getD l 1 0) ∧ (List.getD l 1 0) ≤ 18446744073709551615) ∧ ((-9223372036854775808) ≤ (8 : Int) ∧ (8 : Int) ≤ 9223372036854775807) ∧ ((8 : Int) = 8) ∧ ((8 : Nat) ≤ 64) ∧ (0 ≤ ((List.getD l 1 0) * 256) ∧ ((List.getD l 1 0) * 256) ≤ 18446744073709551615) ∧ (bitsI .or .u64 ((List.getD l 0 0) * 1) ((List.getD l 1 0) * 256) = (((List.getD l 0 0) * 1) + ((List.getD l 1 0) * 256)))) (l' := [(1, .e (.c (.d (D.sl (dI .u8 l) 4)))), (2, rV 0 0), (5, .e (.c (.d (D.lit (.int .u64 (((List.getD l 0 0) * 1) + ((List.getD l 1 0) * 256))))))), (9, iV 4), (10, iV 1)]) (g' := [(0, some (105, .ds [iD 4, D.lit (.bool false)]))]) (nx' := 1) zk ⟨(K_place_l 4 1 zo zo), rfl, zo, (dI_at _ _ _ zl04pd0), ⟨by omega, by omega⟩, ⟨by omega, by omega⟩, rfl, zo, ⟨by omega, by omega⟩, (or_lo (by simp) (i := 8) 256 (by decide) zo zo zo)⟩ ?_
 refine AW.rg [.w, .no] [1, 2, 5, 9, 10] [0] (P := ((-9223372036854775808) ≤ (2 : Int) ∧ (2 : Int) ≤ 9223372036854775807)) (l' := [(1, .e (.c (.d (D.sl (dI .u8 l) 4)))), (2, rV 0 0), (5, .e (.c (.d (D.lit (.int .u64 (((List.getD l 0 0) * 1) + ((List.getD l 1 0) * 256))))))), (9, iV 4), (10, iV 2)]) (g' := [(0, some (105, .ds [iD 4, D.lit (.bool false)]))]) (nx' := 1) zk ⟨by omega, by omega⟩ ?_
 refine AWr.s ?_
 refine AW.rgs [.b true] [1, 2, 5, 9, 10, 11] [0] (P := (((2 : Int) < 4))) (l' := [(1, .e (.c (.d (D.sl (dI .u8 l) 4)))), (2, rV 0 0), (5, .e (.c (.d (D.lit (.int .u64 (((List.getD l 0 0) * 1) + ((List.getD l 1 0) * 256))))))), (9, iV 4), (10, iV 2), (11, .e (.c (.d (D.lit (.bool true)))))]) (g' := [(0, some (105, .ds [iD 4, D.lit (.bool false)]))]) (nx' := 1) zk zo ?_
 refine AW.seq ?_
 refine AW.cond_t (.tmp (Look.of rfl)) ?_
 refine AW.skip ?_
 refine AW.seq ?_
 refine AW.block ?_
 refine AW.rgs [.no, .no] [1, 2, 5, 6, 9, 10] [0] (P := True) (l' := [(1, .e (.c (.d (D.sl (dI .u8 l) 4)))), (2, rV 0 0), (5, .e (.c (.d (D.lit (.int .u64 (((List.getD l 0 0) * 1) + ((List.getD l 1 0) * 256))))))), (6, iV 2), (9, iV 4), (10, iV 2)]) (g' := [(0, some (105, .ds [iD 4, D.lit (.bool false)]))]) (nx' := 1) zk trivial ?_
 have hx3 : 0 ≤ (List.getD l 2 0) ∧ (List.getD l 2 0) ≤ 255 := hb.at 2 zo
 refine AW.rg [.no, .no, .no, .no, .call [] (iV 2) [] 0 [] none, .n 2, .d (D.lit (.int .u8 (List.getD l 2 0))), .w, .no, .w, .n 16, .i ((((List.getD l 0 0) * 1) + ((List.getD l 1 0) * 256)) + ((List.getD l 2 0) * 65536)), .no] [1, 2, 5, 9, 10] [0] (P := (_) ∧ ((2 : Int) = 2) ∧ ((2 : Nat) < 4) ∧ ((List.drop 2 (dI .u8 l))[0]? = some (D.lit (.int .u8 (List.getD l 2 0)))) ∧ (0 ≤ (List.getD l 2 0) ∧ (List.getD l 2 0) ≤ 18446744073709551615) ∧ ((-9223372036854775808) ≤ (16 : Int) ∧ (16 : Int) ≤ 9223372036854775807) ∧ ((16 : Int) = 16) ∧ ((16 : Nat) ≤ 64) ∧ (0 ≤ ((List.getD l 2 0) * 65536) ∧ ((List.getD l 2 0) * 65536) ≤ 18446744073709551615) ∧ (bitsI .or .u64 (((List.getD l 0 0) * 1) + ((List.getD l 1 0) * 256)) ((List.getD l 2 0) * 65536) = ((((List.getD l 0 0) * 1) + ((List.getD l 1 0) * 256)) + ((List.getD l 2 0) * 65536)))) (l' := [(1, .e (.c (.d (D.sl (dI .u8 l) 4)))), (2, rV 0 0), (5, .e (.c (.d (D.lit (.int .u64 ((((List.getD l 0 0) * 1) + ((List.getD l 1 0) * 256)) + ((List.getD l 2 0) * 65536))))))), (9, iV 4), (10, iV 2)]) (g' := [(0, some (105, .ds [iD 4, D.lit (.bool false)]))]) (nx' := 1) zk ⟨(K_place_l 4 2 zo zo), rfl, zo, (dI_at _ _ _ zl04pd0), ⟨by omega, by omega⟩, ⟨by omega, by omega⟩, rfl, zo, ⟨by omega, by omega⟩, (or_lo (by simp) (i := 16) 65536 (by decide) zo zo zo)⟩ ?_
 refine AW.rg [.w, .no] [1, 2, 5, 9, 10] [0] (P := ((-9223372036854775808) ≤ (3 : Int) ∧ (3 : Int) ≤ 9223372036854775807)) (l' := [(1, .e (.c (.d (D.sl (dI .u8 l) 4)))), (2, rV 0 0), (5, .e (.c (.d (D.lit (.int .u64 ((((List.getD l 0 0) * 1) + ((List.getD l 1 0) * 256)) + ((List.getD l 2 0) * 65536))))))), (9, iV 4), (10, iV 3)]) (g' := [(0, some (105, .ds [iD 4, D.lit (.bool false)]))]) (nx' := 1) zk ⟨by omega, by omega⟩ ?_
 refine AWr.s ?_
 refine AW.rgs [.b true] [1, 2, 5, 9, 10, 11] [0] (P := (((3 : Int) < 4))) (l' := [(1, .e (.c (.d (D.sl (dI .u8 l) 4)))), (2, rV 0 0), (5, .e (.c (.d (D.lit (.int .u64 ((((List.getD l 0 0) * 1) + ((List.getD l 1 0) * 256)) + ((List.getD l 2 0) * 65536))))))), (9, iV 4), (10, iV 3), (11, .e (.c (.d (D.lit (.bool true)))))]) (g' := [(0, some (105, .ds [iD 4, D.lit (.bool false)]))]) (nx' := 1) zk zo ?_
 refine AW.seq ?_
 refine AW.cond_t (.tmp (Look.of rfl)) ?_
 refine AW.skip ?_
 refine AW.seq ?_
 refine AW.block ?_
 refine AW.rgs [.no, .no] [1, 2, 5, 6, 9, 10] [0] (P := True) (l' := [(1, .e (.c (.d (D.sl (dI .u8 l) 4)))), (2, rV 0 0), (5, .e (.c (.d (D.lit (.int .u64 ((((List.getD l 0 0) * 1) + ((List.getD l 1 0) * 256)) + ((List.getD l 2 0) * 65536))))))), (6, iV 3), (9, iV 4), (10, iV 3)]) (g' := [(0, some (105, .ds [iD 4, D.lit (.bool false)]))]) (nx' := 1) zk trivial ?_
 have hx4 : 0 ≤ (List.getD l 3 0) ∧ (List.getD l 3 0) ≤ 255 := hb.at 3 zo
 refine AW.rg [.no, .no, .no, .no, .call [] (iV 3) [] 0 [] none, .n 3, .d (D.lit (.int .u8 (List.getD l 3 0))), .w, .no, .w, .n 24, .i (((((List.getD l 0 0) * 1) + ((List.getD l 1 0) * 256)) + ((List.getD l 2 0) * 65536)) + ((List.getD l 3 0) * 16777216)), .no] [1, 2, 5, 9, 10] [0] (P := (_) ∧ ((3 : Int) = 3) ∧ ((3 : Nat) < 4) ∧ ((List.drop 3 (dI .u8 l))[0]? = some (D.lit (.int .u8 (List.getD l 3 0)))) ∧ (0 ≤ (List.getD l 3 0) ∧ (List.getD l 3 0) ≤ 18446744073709551615) ∧ ((-9223372036854775808) ≤ (24 : Int) ∧ (24 : Int) ≤ 9223372036854775807) ∧ ((24 : Int) = 24) ∧ ((24 : Nat) ≤ 64) ∧ (0 ≤ ((List.getD l 3 0) * 16777216) ∧ ((List.getD l 3 0) * 16777216) ≤ 18446744073709551615) ∧ (bitsI .or .u64 ((((List.getD l 0 0) * 1) + ((List.getD l 1 0) * 256)) + ((List.getD l 2 0) * 65536)) ((List.getD l 3 0) * 16777216) = (((((List.getD l 0 0) * 1) + ((List.getD l 1 0) * 256)) + ((List.getD l 2 0) * 65536)) + ((List.getD l 3 0) * 16777216)))) (l' := [(1, .e (.c (.d (D.sl (dI .u8 l) 4)))), (2, rV 0 0), (5, .e (.c (.d (D.lit (.int .u64 (((((List.getD l 0 0) * 1) + ((List.getD l 1 0) * 256)) + ((List.getD l 2 0) * 65536)) + ((List.getD l 3 0) * 16777216))))))), (9, iV 4), (10, iV 3)]) (g' := [(0, some (105, .ds [iD 4, D.lit (.bool false)]))]) (nx' := 1) zk ⟨(K_place_l 4 3 zo zo), rfl, zo, (dI_at _ _ _ zl04pd0), ⟨by omega, by omega⟩, ⟨by omega, by omega⟩, rfl, zo, ⟨by omega, by omega⟩, (or_lo (by simp) (i := 24) 16777216 (by decide) zo zo zo)⟩ ?_
 refine AW.rg [.w, .no] [1, 2, 5, 9, 10] [0] (P := ((-9223372036854775808) ≤ (4 : Int) ∧ (4 : Int) ≤ 9223372036854775807)) (l' := [(1, .e (.c (.d (D.sl (dI .u8 l) 4)))), (2, rV 0 0), (5, .e (.c (.d (D.lit (.int .u64 (((((List.getD l 0 0) * 1) + ((List.getD l 1 0) * 256)) + ((List.getD l 2 0) * 65536)) + ((List.getD l 3 0) * 16777216))))))), (9, iV 4), (10, iV 4)]) (g' := [(0, some (105, .ds [iD 4, D.lit (.bool false)]))]) (nx' := 1) zk ⟨by omega, by omega⟩ ?_
 refine AWr.s ?_
 refine AW.rgs [.b false] [1, 2, 5, 9, 10, 11] [0] (P := (¬ ((4 : Int) < 4))) (l' := [(1, .e (.c (.d (D.sl (dI .u8 l) 4)))), (2, rV 0 0), (5, .e (.c (.d (D.lit (.int .u64 (((((List.getD l 0 0) * 1) + ((List.getD l 1 0) * 256)) + ((List.getD l 2 0) * 65536)) + ((List.getD l 3 0) * 16777216))))))), (9, iV 4), (10, iV 4), (11, .e (.c (.d (D.lit (.bool false)))))]) (g' := [(0, some (105, .ds [iD 4, D.lit (.bool false)]))]) (nx' := 1) zk zo ?_
 refine AW.seq ?_
 refine AW.cond_f (.tmp (Look.of rfl)) ?_
 refine AW.exit ?_
 refine AW.seq ?_
 refine AW.rgs [.no, .no, .b false] [2, 5, 28] [0] (P := (¬ ((4 : Int) = 1))) (l' := [(2, rV 0 0), (5, .e (.c (.d (D.lit (.int .u64 (((((List.getD l 0 0) * 1) + ((List.getD l 1 0) * 256)) + ((List.getD l 2 0) * 65536)) + ((List.getD l 3 0) * 16777216))))))), (28, .e (.c (.d (D.lit (.bool false)))))]) (g' := [(0, some (105, .ds [iD 4, D.lit (.bool false)]))]) (nx' := 1) zk zo ?_
 refine AW.cond_f (.tmp (Look.of rfl)) ?_
 refine AW.skip ?_
 refine AW.rgs [.no, .no, .w, .w, .no] [5, 7] [] (P := ((-9223372036854775808) ≤ (32 : Int) ∧ (32 : Int) ≤ 9223372036854775807) ∧ ((-9223372036854775808) ≤ (32 : Int) ∧ (32 : Int) ≤ 9223372036854775807)) (l' := [(5, .e (.c (.d (D.lit (.int .u64 (((((List.getD l 0 0) * 1) + ((List.getD l 1 0) * 256)) + ((List.getD l 2 0) * 65536)) + ((List.getD l 3 0) * 16777216))))))), (7, iV 32)]) (g' := []) (nx' := 1) zk ⟨⟨by omega, by omega⟩, ⟨by omega, by omega⟩⟩ ?_
 by_cases hx5 : (((((((List.getD l 0 0) * 1) + ((List.getD l 1 0) * 256)) + ((List.getD l 2 0) * 65536)) + ((List.getD l 3 0) * 16777216)) * 4294967296) ≤ 9223372036854775807)
 ·refine AW.rgs [.no, .no, .n 32, .w, .no, .n 32, .no] [4] [] (P := ((32 : Int) = 32) ∧ ((32 : Nat) ≤ 64) ∧ (0 ≤ ((((((List.getD l 0 0) * 1) + ((List.getD l 1 0) * 256)) + ((List.getD l 2 0) * 65536)) + ((List.getD l 3 0) * 16777216)) * 4294967296) ∧ ((((((List.getD l 0 0) * 1) + ((List.getD l 1 0) * 256)) + ((List.getD l 2 0) * 65536)) + ((List.getD l 3 0) * 16777216)) * 4294967296) ≤ 18446744073709551615) ∧ ((-9223372036854775808) ≤ ((((((List.getD l 0 0) * 1) + ((List.getD l 1 0) * 256)) + ((List.getD l 2 0) * 65536)) + ((List.getD l 3 0) * 16777216)) * 4294967296) ∧ ((((((List.getD l 0 0) * 1) + ((List.getD l 1 0) * 256)) + ((List.getD l 2 0) * 65536)) + ((List.getD l 3 0) * 16777216)) * 4294967296) ≤ 9223372036854775807) ∧ ((32 : Int) = 32) ∧ ((32 : Nat) ≤ 64)) (l' := [(4, iV (((((((List.getD l 0 0) * 1) + ((List.getD l 1 0) * 256)) + ((List.getD l 2 0) * 65536)) + ((List.getD l 3 0) * 16777216)) * 4294967296) / 4294967296))]) (g' := []) (nx' := 1) zk ⟨rfl, zo, ⟨by omega, by omega⟩, ⟨by omega, by omega⟩, rfl, zo⟩ ?_
  refine AW.ret ?_
  exact EndP.of (.inr rfl) [] (P := (((sgn 2147483648 ((((List.getD l 0 0) + ((List.getD l 1 0) * 256)) + ((List.getD l 2 0) * 65536)) + ((List.getD l 3 0) * 16777216))) : Int) = (((((((List.getD l 0 0) * 1) + ((List.getD l 1 0) * 256)) + ((List.getD l 2 0) * 65536)) + ((List.getD l 3 0) * 16777216)) * 4294967296) / 4294967296))) zk zl04pd1
 ·refine AW.rgs [.no, .no, .n 32, .i (((((((List.getD l 0 0) * 1) + ((List.getD l 1 0) * 256)) + ((List.getD l 2 0) * 65536)) + ((List.getD l 3 0) * 16777216)) * 4294967296) - 18446744073709551616), .no, .n 32, .no] [4] [] (P := ((32 : Int) = 32) ∧ ((32 : Nat) ≤ 64) ∧ (0 ≤ ((((((List.getD l 0 0) * 1) + ((List.getD l 1 0) * 256)) + ((List.getD l 2 0) * 65536)) + ((List.getD l 3 0) * 16777216)) * 4294967296) ∧ ((((((List.getD l 0 0) * 1) + ((List.getD l 1 0) * 256)) + ((List.getD l 2 0) * 65536)) + ((List.getD l 3 0) * 16777216)) * 4294967296) ≤ 18446744073709551615) ∧ (IntKind.i64.wrap ((((((List.getD l 0 0) * 1) + ((List.getD l 1 0) * 256)) + ((List.getD l 2 0) * 65536)) + ((List.getD l 3 0) * 16777216)) * 4294967296) = (((((((List.getD l 0 0) * 1) + ((List.getD l 1 0) * 256)) + ((List.getD l 2 0) * 65536)) + ((List.getD l 3 0) * 16777216)) * 4294967296) - 18446744073709551616)) ∧ ((32 : Int) = 32) ∧ ((32 : Nat) ≤ 64)) (l' := [(4, iV ((((((((List.getD l 0 0) * 1) + ((List.getD l 1 0) * 256)) + ((List.getD l 2 0) * 65536)) + ((List.getD l 3 0) * 16777216)) * 4294967296) - 18446744073709551616) / 4294967296))]) (g' := []) (nx' := 1) zk ⟨rfl, zo, ⟨by omega, by omega⟩, (wrap_i64_hi zo), rfl, zo⟩ ?_
  refine AW.ret ?_
  exact EndP.of (.inr rfl) [] (P := (((sgn 2147483648 ((((List.getD l 0 0) + ((List.getD l 1 0) * 256)) + ((List.getD l 2 0) * 65536)) + ((List.getD l 3 0) * 16777216))) : Int) = ((((((((List.getD l 0 0) * 1) + ((List.getD l 1 0) * 256)) + ((List.getD l 2 0) * 65536)) + ((List.getD l 3 0) * 16777216)) * 4294967296) - 18446744073709551616) / 4294967296))) zk zl04pd1
theorem K_get7 (l : List Int) (hn : List.length l = 4) (hb : Byt l) : Fun 74 [.agg [iC 4, .d (D.lit (.bool true))], .c (.d (D.sl (dI .u8 l) 4))] (toG []) 0 (iV (sgn 2147483648 ((((List.getD l 3 0) + ((List.getD l 2 0) * 256)) + ((List.getD l 1 0) * 65536)) + ((List.getD l 0 0) * 16777216)))) (toG []) 0 := by
 refine Fun.mk (n := 41) Tryd.func74 rfl rfl (Nat.le_of_ble_eq_true rfl) ?_
 intro cx hcx
 refine AW.rgs [.no, .no] [1, 2] [0] (P := True) (l' := [(1, .e (.c (.d (D.sl (dI .u8 l) 4)))), (2, rV 0 0)]) (g' := [(0, some (105, .ds [iD 4, D.lit (.bool true)]))]) (nx' := 1) zk trivial ?_
 refine AW.rgs [.no] [1, 2, 5] [0] (P := True) (l' := [(1, .e (.c (.d (D.sl (dI .u8 l) 4)))), (2, rV 0 0), (5, .e (.c (.d (D.lit (.int .u64 0)))))]) (g' := [(0, some (105, .ds [iD 4, D.lit (.bool true)]))]) (nx' := 1) zk trivial ?_
 refine AW.seq ?_
 refine AW.rgs [.no, .no, .no] [1, 2, 5, 9, 10] [0] (P := True) (l' := [(1, .e (.c (.d (D.sl (dI .u8 l) 4)))), (2, rV 0 0), (5, .e (.c (.d (D.lit (.int .u64 0))))), (9, iV 4), (10, iV 0)]) (g' := [(0, some (105, .ds [iD 4, D.lit (.bool true)]))]) (nx' := 1) zk trivial ?_
 refine AW.block ?_
 refine AW.rounds 5 ?_
 refine AWr.s ?_
 refine AW.rgs [.b true] [1, 2, 5, 9, 10, 11] [0] (P := (((0 : Int) < 4))) (l' := [(1, .e (.c (.d (D.sl (dI .u8 l) 4)))), (2, rV 0 0), (5, .e (.c (.d (D.lit (.int .u64 0))))), (9, iV 4), (10, iV 0), (11, .e (.c (.d (D.lit (.bool true)))))]) (g' := [(0, some (105, .ds [iD 4, D.lit (.bool true)]))]) (nx' := 1) zk zo ?_
 refine AW.seq ?_
 refine AW.cond_t (.tmp (Look.of rfl)) ?_
 refine AW.skip ?_
 refine AW.seq ?_
 refine AW.block ?_
 refine AW.rgs [.no, .no] [1, 2, 5, 6, 9, 10] [0] (P := True) (l' := [(1, .e (.c (.d (D.sl (dI .u8 l) 4)))), (2, rV 0 0), (5, .e (.c (.d (D.lit (.int .u64 0))))), (6, iV 0), (9, iV 4), (10, iV 0)]) (g' := [(0, some (105, .ds [iD 4, D.lit (.bool true)]))]) (nx' := 1) zk trivial ?_
 have hx1 : 0 ≤ (List.getD l 3 0) ∧ (List.getD l 3 0) ≤ 255 := hb.at 3 zo
 refine AW.rg [.no, .no, .no, .no, .call [] (iV 3) [] 0 [] none, .n 3, .d (D.lit (.int .u8 (List.getD l 3 0))), .w, .no, .w, .n 0, .i ((List.getD l 3 0) * 1), .no] [1, 2, 5, 9, 10] [0] (P := (_) ∧ ((3 : Int) = 3) ∧ ((3 : Nat) < 4) ∧ ((List.drop 3 (dI .u8 l))[0]? = some (D.lit (.int .u8 (List.getD l 3 0)))) ∧ (0 ≤ (List.getD l 3 0) ∧ (List.getD l 3 0) ≤ 18446744073709551615) ∧ ((-9223372036854775808) ≤ (0 : Int) ∧ (0 : Int) ≤ 9223372036854775807) ∧ ((0 : Int) = 0) ∧ ((0 : Nat) ≤ 64) ∧ (0 ≤ ((List.getD l 3 0) * 1) ∧ ((List.getD l 3 0) * 1) ≤ 18446744073709551615) ∧ (bitsI .or .u64 0 ((List.getD l 3 0) * 1) = ((List.getD l 3 0) * 1))) (l' := [(1, .e (.c (.d (D.sl (dI .u8 l) 4)))), (2, rV 0 0), (5, .e (.c (.d (D.lit (.int .u64 ((List.getD l 3 0) * 1)))))), (9, iV 4), (10, iV 0)]) (g' := [(0, some (105, .ds [iD 4, D.lit (.bool true)]))]) (nx' := 1) zk ⟨(K_place_b 4 0 zo zo), rfl, zo, (dI_at _ _ _ zl04pd0), ⟨by omega, by omega⟩, ⟨by omega, by omega⟩, rfl, zo, ⟨by omega, by omega⟩, (or_z .u64 (by simp) zo).1⟩ ?_
 refine AW.rg [.w, .no] [1, 2, 5, 9, 10] [0] (P := ((-9223372036854775808) ≤ (1 : Int) ∧ (1 : Int) ≤ 9223372036854775807)) (l' := [(1, .e (.c (.d (D.sl (dI .u8 l) 4)))), (2, rV 0 0), (5, .e (.c (.d (D.lit (.int .u64 ((List.getD l 3 0) * 1)))))), (9, iV 4), (10, iV 1)]) (g' := [(0, some (105, .ds [iD 4, D.lit (.bool true)]))]) (nx' := 1) zk ⟨by omega, by omega⟩ ?_
 refine AWr.s ?_
 refine AW.rgs [.b true] [1, 2, 5, 9, 10, 11] [0] (P := (((1 : Int) < 4))) (l' := [(1, .e (.c (.d (D.sl (dI .u8 l) 4)))), (2, rV 0 0), (5, .e (.c (.d (D.lit (.int .u64 ((List.getD l 3 0) * 1)))))), (9, iV 4), (10, iV 1), (11, .e (.c (.d (D.lit (.bool true)))))]) (g' := [(0, some (105, .ds [iD 4, D.lit (.bool true)]))]) (nx' := 1) zk zo ?_
 refine AW.seq ?_
 refine AW.cond_t (.tmp (Look.of rfl)) ?_
 refine AW.skip ?_
 refine AW.seq ?_
 refine AW.block ?_
 refine AW.rgs [.no, .no] [1, 2, 5, 6, 9, 10] [0] (P := True) (l' := [(1, .e (.c (.d (D.sl (dI .u8 l) 4)))), (2, rV 0 0), (5, .e (.c (.d (D.lit (.int .u64 ((List.getD l 3 0) * 1)))))), (6, iV 1), (9, iV 4), (10, iV 1)]) (g' := [(0, some (105, .ds [iD 4, D.lit (.bool true)]))]) (nx' := 1) zk trivial ?_
 have hx2 : 0 ≤ (List.getD l 2 0) ∧ (List.getD l 2 0) ≤ 255 := hb.at 2 zo
 refine AW.rg [.no, .no, .no, .no, .call [] (iV 2) [] 0 [] none, .n 2, .d (D.lit (.int .u8 (List.getD l 2 0))), .w, .no, .w, .n 8, .i (((List.getD l 3 0) * 1) + ((List.getD l 2 0) * 256)), .no] [1, 2, 5, 9, 10] [0] (P := (_) ∧ ((2 : Int) = 2) ∧ ((2 : Nat) < 4) ∧ ((List.drop 2 (dI .u8 l))[0]? = some (D.lit (.int .u8 (List.getD l 2 0)))) ∧ (0 ≤ (List.getD l 2 0) ∧ (List.getD l 2 0) ≤ 18446744073709551615) ∧ ((-9223372036854775808) ≤ (8 : Int) ∧ (8 : Int) ≤ 9223372036854775807) ∧ ((8 : Int) = 8) ∧ ((8 : Nat) ≤ 64) ∧ (0 ≤ ((List.getD l 2 0) * 256) ∧ ((List.getD l 2 0) * 256) ≤ 18446744073709551615) ∧ (bitsI .or .u64 ((List.getD l 3 0) * 1) ((List.getD l 2 0) * 256) = (((List.getD l 3 0) * 1) + ((List.getD l 2 0) * 256)))) (l' := [(1, .e (.c (.d (D.sl (dI .u8 l) 4)))), (2, rV 0 0), (5, .e (.c (.d (D.lit (.int .u64 (((List.getD l 3 0) * 1) + ((List.getD l 2 0) * 256))))))), (9, iV 4), (10, iV 1)]) (g' := [(0, some (105, .ds [iD 4, D.lit (.bool true)]))]) (nx' := 1) zk ⟨(K_place_b 4 1 zo zo), rfl, zo, (dI_at _ _ _ zl04pd0), ⟨by omega, by omega⟩, ⟨by omega, by omega⟩, rfl, zo, ⟨by omega, by omega⟩, (or_lo (by simp) (i := 8) 256 (by decide) zo zo zo)⟩ ?_
 refine AW.rg [.w, .no] [1, 2, 5, 9, 10] [0] (P := ((-9223372036854775808) ≤ (2 : Int) ∧ (2 : Int) ≤ 9223372036854775807)) (l' := [(1, .e (.c (.d (D.sl (dI .u8 l) 4)))), (2, rV 0 0), (5, .e (.c (.d (D.lit (.int .u64 (((List.getD l 3 0) * 1) + ((List.getD l 2 0) * 256))))))), (9, iV 4), (10, iV 2)]) (g' := [(0, some (105, .ds [iD 4, D.lit (.bool true)]))]) (nx' := 1) zk ⟨by omega, by omega⟩ ?_
 refine AWr.s ?_
 refine AW.rgs [.b true] [1, 2, 5, 9, 10, 11] [0] (P := (((2 : Int) < 4))) (l' := [(1, .e (.c (.d (D.sl (dI .u8 l) 4)))), (2, rV 0 0), (5, .e (.c (.d (D.lit (.int .u64 (((List.getD l 3 0) * 1) + ((List.getD l 2 0) * 256))))))), (9, iV 4), (10, iV 2), (11, .e (.c (.d (D.lit (.bool true)))))]) (g' := [(0, some (105, .ds [iD 4, D.lit (.bool true)]))]) (nx' := 1) zk zo ?_
 refine AW.seq ?_
 refine AW.cond_t (.tmp (Look.of rfl)) ?_
 refine AW.skip ?_
 refine AW.seq ?_
 refine AW.block ?_
 refine AW.rgs [.no, .no] [1, 2, 5, 6, 9, 10] [0] (P := True) (l' := [(1, .e (.c (.d (D.sl (dI .u8 l) 4)))), (2, rV 0 0), (5, .e (.c (.d (D.lit (.int .u64 (((List.getD l 3 0) * 1) + ((List.getD l 2 0) * 256))))))), (6, iV 2), (9, iV 4), (10, iV 2)]) (g' := [(0, some (105, .ds [iD 4, D.lit (.bool true)]))]) (nx' := 1) zk trivial ?_
 have hx3 : 0 ≤ (List.getD l 1 0) ∧ (List.getD l 1 0) ≤ 255 := hb.at 1 zo
 refine AW.rg [.no, .no, .no, .no, .call [] (iV 1) [] 0 [] none, .n 1, .d (D.lit (.int .u8 (List.getD l 1 0))), .w, .no, .w, .n 16, .i ((((List.getD l 3 0) * 1) + ((List.getD l 2 0) * 256)) + ((List.getD l 1 0) * 65536)), .no] [1, 2, 5, 9, 10] [0] (P := (_) ∧ ((1 : Int) = 1) ∧ ((1 : Nat) < 4) ∧ ((List.drop 1 (dI .u8 l))[0]? = some (D.lit (.int .u8 (List.getD l 1 0)))) ∧ (0 ≤ (List.getD l 1 0) ∧ (List.getD l 1 0) ≤ 18446744073709551615) ∧ ((-9223372036854775808) ≤ (16 : Int) ∧ (16 : Int) ≤ 9223372036854775807) ∧ ((16 : Int) = 16) ∧ ((16 : Nat) ≤ 64) ∧ (0 ≤ ((List.getD l 1 0) * 65536) ∧ ((List.getD l 1 0) * 65536) ≤ 18446744073709551615) ∧ (bitsI .or .u64 (((List.getD l 3 0) * 1) + ((List.getD l 2 0) * 256)) ((List.getD l 1 0) * 65536) = ((((List.getD l 3 0) * 1) + ((List.getD l 2 0) * 256)) + ((List.getD l 1 0) * 65536)))) (l' := [(1, .e (.c (.d (D.sl (dI .u8 l) 4)))), (2, rV 0 0), (5, .e (.c (.d (D.lit (.int .u64 ((((List.getD l 3 0) * 1) + ((List.getD l 2 0) * 256)) + ((List.getD l 1 0) * 65536))))))), (9, iV 4), (10, iV 2)]) (g' := [(0, some (105, .ds [iD 4, D.lit (.bool true)]))]) (nx' := 1) zk ⟨(K_place_b 4 2 zo zo), rfl, zo, (dI_at _ _ _ zl04pd0), ⟨by omega, by omega⟩, ⟨by omega, by omega⟩, rfl, zo, ⟨by omega, by omega⟩, (or_lo (by simp) (i := 16) 65536 (by decide) zo zo zo)⟩ ?_
 refine AW.rg [.w, .no] [1, 2, 5, 9, 10] [0] (P := ((-9223372036854775808) ≤ (3 : Int) ∧ (3 : Int) ≤ 9223372036854775807)) (l' := [(1, .e (.c (.d (D.sl (dI .u8 l) 4)))), (2, rV 0 0), (5, .e (.c (.d (D.lit (.int .u64 ((((List.getD l 3 0) * 1) + ((List.getD l 2 0) * 256)) + ((List.getD l 1 0) * 65536))))))), (9, iV 4), (10, iV 3)]) (g' := [(0, some (105, .ds [iD 4, D.lit (.bool true)]))]) (nx' := 1) zk ⟨by omega, by omega⟩ ?_
 refine AWr.s ?_
 refine AW.rgs [.b true] [1, 2, 5, 9, 10, 11] [0] (P := (((3 : Int) < 4))) (l' := [(1, .e (.c (.d (D.sl (dI .u8 l) 4)))), (2, rV 0 0), (5, .e (.c (.d (D.lit (.int .u64 ((((List.getD l 3 0) * 1) + ((List.getD l 2 0) * 256)) + ((List.getD l 1 0) * 65536))))))), (9, iV 4), (10, iV 3), (11, .e (.c (.d (D.lit (.bool true)))))]) (g' := [(0, some (105, .ds [iD 4, D.lit (.bool true)]))]) (nx' := 1) zk zo ?_
 refine AW.seq ?_
 refine AW.cond_t (.tmp (Look.of rfl)) ?_
 refine AW.skip ?_
 refine AW.seq ?_
 refine AW.block ?_
 refine AW.rgs [.no, .no] [1, 2, 5, 6, 9, 10] [0] (P := True) (l' := [(1, .e (.c (.d (D.sl (dI .u8 l) 4)))), (2, rV 0 0), (5, .e (.c (.d (D.lit (.int .u64 ((((List.getD l 3 0) * 1) + ((List.getD l 2 0) * 256)) + ((List.getD l 1 0) * 65536))))))), (6, iV 3), (9, iV 4), (10, iV 3)]) (g' := [(0, some (105, .ds [iD 4, D.lit (.bool true)]))]) (nx' := 1) zk trivial ?_
 have hx4 : 0 ≤ (List.getD l 0 0) ∧ (List.getD l 0 0) ≤ 255 := hb.at 0 zo
 refine AW.rg [.no, .no, .no, .no, .call [] (iV 0) [] 0 [] none, .n 0, .d (D.lit (.int .u8 (List.getD l 0 0))), .w, .no, .w, .n 24, .i (((((List.getD l 3 0) * 1) + ((List.getD l 2 0) * 256)) + ((List.getD l 1 0) * 65536)) + ((List.getD l 0 0) * 16777216)), .no] [1, 2, 5, 9, 10] [0] (P := (_) ∧ ((0 : Int) = 0) ∧ ((0 : Nat) < 4) ∧ ((List.drop 0 (dI .u8 l))[0]? = some (D.lit (.int .u8 (List.getD l 0 0)))) ∧ (0 ≤ (List.getD l 0 0) ∧ (List.getD l 0 0) ≤ 18446744073709551615) ∧ ((-9223372036854775808) ≤ (24 : Int) ∧ (24 : Int) ≤ 9223372036854775807) ∧ ((24 : Int) = 24) ∧ ((24 : Nat) ≤ 64) ∧ (0 ≤ ((List.getD l 0 0) * 16777216) ∧ ((List.getD l 0 0) * 16777216) ≤ 18446744073709551615) ∧ (bitsI .or .u64 ((((List.getD l 3 0) * 1) + ((List.getD l 2 0) * 256)) + ((List.getD l 1 0) * 65536)) ((List.getD l 0 0) * 16777216) = (((((List.getD l 3 0) * 1) + ((List.getD l 2 0) * 256)) + ((List.getD l 1 0) * 65536)) + ((List.getD l 0 0) * 16777216)))) (l' := [(1, .e (.c (.d (D.sl (dI .u8 l) 4)))), (2, rV 0 0), (5, .e (.c (.d (D.lit (.int .u64 (((((List.getD l 3 0) * 1) + ((List.getD l 2 0) * 256)) + ((List.getD l 1 0) * 65536)) + ((List.getD l 0 0) * 16777216))))))), (9, iV 4), (10, iV 3)]) (g' := [(0, some (105, .ds [iD 4, D.lit (.bool true)]))]) (nx' := 1) zk ⟨(K_place_b 4 3 zo zo), rfl, zo, (dI_at _ _ _ zl04pd0), ⟨by omega, by omega⟩, ⟨by omega, by omega⟩, rfl, zo, ⟨by omega, by omega⟩, (or_lo (by simp) (i := 24) 16777216 (by decide) zo zo zo)⟩ ?_
 refine AW.rg [.w, .no] [1, 2, 5, 9, 10] [0] (P := ((-9223372036854775808) ≤ (4 : Int) ∧ (4 : Int) ≤ 9223372036854775807)) (l' := [(1, .e (.c (.d (D.sl (dI .u8 l) 4)))), (2, rV 0 0), (5, .e (.c (.d (D.lit (.int .u64 (((((List.getD l 3 0) * 1) + ((List.getD l 2 0) * 256)) + ((List.getD l 1 0) * 65536)) + ((List.getD l 0 0) * 16777216))))))), (9, iV 4), (10, iV 4)]) (g' := [(0, some (105, .ds [iD 4, D.lit (.bool true)]))]) (nx' := 1) zk ⟨by omega, by omega⟩ ?_
 refine AWr.s ?_
 refine AW.rgs [.b false] [1, 2, 5, 9, 10, 11] [0] (P := (¬ ((4 : Int) < 4))) (l' := [(1, .e (.c (.d (D.sl (dI .u8 l) 4)))), (2, rV 0 0), (5, .e (.c (.d (D.lit (.int .u64 (((((List.getD l 3 0) * 1) + ((List.getD l 2 0) * 256)) + ((List.getD l 1 0) * 65536)) + ((List.getD l 0 0) * 16777216))))))), (9, iV 4), (10, iV 4), (11, .e (.c (.d (D.lit (.bool false)))))]) (g' := [(0, some (105, .ds [iD 4, D.lit (.bool true)]))]) (nx' := 1) zk zo ?_
 refine AW.seq ?_
 refine AW.cond_f (.tmp (Look.of rfl)) ?_
 refine AW.exit ?_
 refine AW.seq ?_
 refine AW.rgs [.no, .no, .b false] [2, 5, 28] [0] (P := (¬ ((4 : Int) = 1))) (l' := [(2, rV 0 0), (5, .e (.c (.d (D.lit (.int .u64 (((((List.getD l 3 0) * 1) + ((List.getD l 2 0) * 256)) + ((List.getD l 1 0) * 65536)) + ((List.getD l 0 0) * 16777216))))))), (28, .e (.c (.d (D.lit (.bool false)))))]) (g' := [(0, some (105, .ds [iD 4, D.lit (.bool true)]))]) (nx' := 1) zk zo ?_
 refine AW.cond_f (.tmp (Look.of rfl)) ?_
 refine AW.skip ?_
 refine AW.rgs [.no, .no, .w, .w, .no] [5, 7] [] (P := ((-9223372036854775808) ≤ (32 : Int) ∧ (32 : Int) ≤ 9223372036854775807) ∧ ((-9223372036854775808) ≤ (32 : Int) ∧ (32 : Int) ≤ 9223372036854775807)) (l' := [(5, .e (.c (.d (D.lit (.int .u64 (((((List.getD l 3 0) * 1) + ((List.getD l 2 0) * 256)) + ((List.getD l 1 0) * 65536)) + ((List.getD l 0 0) * 16777216))))))), (7, iV 32)]) (g' := []) (nx' := 1) zk ⟨⟨by omega, by omega⟩, ⟨by omega, by omega⟩⟩ ?_
 by_cases hx5 : (((((((List.getD l 3 0) * 1) + ((List.getD l 2 0) * 256)) + ((List.getD l 1 0) * 65536)) + ((List.getD l 0 0) * 16777216)) * 4294967296) ≤ 9223372036854775807)
 ·refine AW.rgs [.no, .no, .n 32, .w, .no, .n 32, .no] [4] [] (P := ((32 : Int) = 32) ∧ ((32 : Nat) ≤ 64) ∧ (0 ≤ ((((((List.getD l 3 0) * 1) + ((List.getD l 2 0) * 256)) + ((List.getD l 1 0) * 65536)) + ((List.getD l 0 0) * 16777216)) * 4294967296) ∧ ((((((List.getD l 3 0) * 1) + ((List.getD l 2 0) * 256)) + ((List.getD l 1 0) * 65536)) + ((List.getD l 0 0) * 16777216)) * 4294967296) ≤ 18446744073709551615) ∧ ((-9223372036854775808) ≤ ((((((List.getD l 3 0) * 1) + ((List.getD l 2 0) * 256)) + ((List.getD l 1 0) * 65536)) + ((List.getD l 0 0) * 16777216)) * 4294967296) ∧ ((((((List.getD l 3 0) * 1) + ((List.getD l 2 0) * 256)) + ((List.getD l 1 0) * 65536)) + ((List.getD l 0 0) * 16777216)) * 4294967296) ≤ 9223372036854775807) ∧ ((32 : Int) = 32) ∧ ((32 : Nat) ≤ 64)) (l' := [(4, iV (((((((List.getD l 3 0) * 1) + ((List.getD l 2 0) * 256)) + ((List.getD l 1 0) * 65536)) + ((List.getD l 0 0) * 16777216)) * 4294967296) / 4294967296))]) (g' := []) (nx' := 1) zk ⟨rfl, zo, ⟨by omega, by omega⟩, ⟨by omega, by omega⟩, rfl, zo⟩ ?_
  refine AW.ret ?_
  exact EndP.of (.inr rfl) [] (P := (((sgn 2147483648 ((((List.getD l 3 0) + ((List.getD l 2 0) * 256)) + ((List.getD l 1 0) * 65536)) + ((List.getD l 0 0) * 16777216))) : Int) = (((((((List.getD l 3 0) * 1) + ((List.getD l 2 0) * 256)) + ((List.getD l 1 0) * 65536)) + ((List.getD l 0 0) * 16777216)) * 4294967296) / 4294967296))) zk zl04pd1
 ·refine AW.rgs [.no, .no, .n 32, .i (((((((List.getD l 3 0) * 1) + ((List.getD l 2 0) * 256)) + ((List.getD l 1 0) * 65536)) + ((List.getD l 0 0) * 16777216)) * 4294967296) - 18446744073709551616), .no, .n 32, .no] [4] [] (P := ((32 : Int) = 32) ∧ ((32 : Nat) ≤ 64) ∧ (0 ≤ ((((((List.getD l 3 0) * 1) + ((List.getD l 2 0) * 256)) + ((List.getD l 1 0) * 65536)) + ((List.getD l 0 0) * 16777216)) * 4294967296) ∧ ((((((List.getD l 3 0) * 1) + ((List.getD l 2 0) * 256)) + ((List.getD l 1 0) * 65536)) + ((List.getD l 0 0) * 16777216)) * 4294967296) ≤ 18446744073709551615) ∧ (IntKind.i64.wrap ((((((List.getD l 3 0) * 1) + ((List.getD l 2 0) * 256)) + ((List.getD l 1 0) * 65536)) + ((List.getD l 0 0) * 16777216)) * 4294967296) = (((((((List.getD l 3 0) * 1) + ((List.getD l 2 0) * 256)) + ((List.getD l 1 0) * 65536)) + ((List.getD l 0 0) * 16777216)) * 4294967296) - 18446744073709551616)) ∧ ((32 : Int) = 32) ∧ ((32 : Nat) ≤ 64)) (l' := [(4, iV ((((((((List.getD l 3 0) * 1) + ((List.getD l 2 0) * 256)) + ((List.getD l 1 0) * 65536)) + ((List.getD l 0 0) * 16777216)) * 4294967296) - 18446744073709551616) / 4294967296))]) (g' := []) (nx' := 1) zk ⟨rfl, zo, ⟨by omega, by omega⟩, (wrap_i64_hi zo), rfl, zo⟩ ?_
  refine AW.ret ?_
  exact EndP.of (.inr rfl) [] (P := (((sgn 2147483648 ((((List.getD l 3 0) + ((List.getD l 2 0) * 256)) + ((List.getD l 1 0) * 65536)) + ((List.getD l 0 0) * 16777216))) : Int) = ((((((((List.getD l 3 0) * 1) + ((List.getD l 2 0) * 256)) + ((List.getD l 1 0) * 65536)) + ((List.getD l 0 0) * 16777216)) * 4294967296) - 18446744073709551616) / 4294967296))) zk zl04pd1
theorem K_mean2 (b : Bool) (n : Int) (h : -32768 ≤ n ∧ n ≤ 32767) : Fun 73 [.agg [iC 2, .d (D.lit (.bool (b)))], iE n] (toG []) 0 (.e (.c (.d (D.lit (.int .i32 (n * 256)))))) (toG []) 0 := by
 refine Fun.mk (n := 26) Tryd.func73 rfl rfl (Nat.le_of_ble_eq_true rfl) ?_
 intro cx hcx
 refine AW.rgs [.no, .no] [1, 2] [0] (P := True) (l' := [(1, iV n), (2, rV 0 0)]) (g' := [(0, some (105, .ds [iD 2, D.lit (.bool (b))]))]) (nx' := 1) zk trivial ?_
 refine AW.seq ?_
 refine AW.rgs [.no, .no] [1, 6] [] (P := True) (l' := [(1, iV n), (6, iV 2)]) (g' := []) (nx' := 1) zk trivial ?_
 refine AW.block ?_
 refine AW.rgs [.b false, .no] [1, 6, 7] [] (P := (¬ ((2 : Int) = 1))) (l' := [(1, iV n), (6, iV 2), (7, .e (.c (.d (D.lit (.bool false)))))]) (g' := []) (nx' := 1) zk zo ?_
 refine AW.cond_f (.tmp (Look.of rfl)) ?_
 refine AW.rgs [.b true, .no] [1, 6, 13] [] (P := (((2 : Int) = 2))) (l' := [(1, iV n), (6, iV 2), (13, .e (.c (.d (D.lit (.bool true)))))]) (g' := []) (nx' := 1) zk zo ?_
 refine AW.cond_t (.tmp (Look.of rfl)) ?_
 refine AW.rgs [.no, .n 8, .w, .no] [4] [] (P := ((8 : Int) = 8) ∧ ((8 : Nat) ≤ 64) ∧ ((-9223372036854775808) ≤ (n * 256) ∧ (n * 256) ≤ 9223372036854775807) ∧ ((-2147483648) ≤ (n * 256) ∧ (n * 256) ≤ 2147483647)) (l' := [(4, .e (.c (.d (D.lit (.int .i32 (n * 256))))))]) (g' := []) (nx' := 1) zk ⟨rfl, zo, ⟨by omega, by omega⟩, ⟨by omega, by omega⟩⟩ ?_
 refine AW.ret ?_
 exact EndP.of (.inr rfl) [] (P := (((n * 256) : Int) = (n * 256))) zk rfl
theorem K_mean3 (b : Bool) (n : Int) (h : -8388608 ≤ n ∧ n ≤ 8388607) : Fun 73 [.agg [iC 3, .d (D.lit (.bool (b)))], iE n] (toG []) 0 (.e (.c (.d (D.lit (.int .i32 n))))) (toG []) 0 := by
 refine Fun.mk (n := 26) Tryd.func73 rfl rfl (Nat.le_of_ble_eq_true rfl) ?_
 intro cx hcx
 refine AW.rgs [.no, .no] [1, 2] [0] (P := True) (l' := [(1, iV n), (2, rV 0 0)]) (g' := [(0, some (105, .ds [iD 3, D.lit (.bool (b))]))]) (nx' := 1) zk trivial ?_
 refine AW.seq ?_
 refine AW.rgs [.no, .no] [1, 6] [] (P := True) (l' := [(1, iV n), (6, iV 3)]) (g' := []) (nx' := 1) zk trivial ?_
 refine AW.block ?_
 refine AW.rgs [.b false, .no] [1, 6, 7] [] (P := (¬ ((3 : Int) = 1))) (l' := [(1, iV n), (6, iV 3), (7, .e (.c (.d (D.lit (.bool false)))))]) (g' := []) (nx' := 1) zk zo ?_
 refine AW.cond_f (.tmp (Look.of rfl)) ?_
 refine AW.rgs [.b false, .no] [1, 6, 13] [] (P := (¬ ((3 : Int) = 2))) (l' := [(1, iV n), (6, iV 3), (13, .e (.c (.d (D.lit (.bool false)))))]) (g' := []) (nx' := 1) zk zo ?_
 refine AW.cond_f (.tmp (Look.of rfl)) ?_
 refine AW.rgs [.b true, .no] [1, 18] [] (P := (((3 : Int) = 3))) (l' := [(1, iV n), (18, .e (.c (.d (D.lit (.bool true)))))]) (g' := []) (nx' := 1) zk zo ?_
 refine AW.cond_t (.tmp (Look.of rfl)) ?_
 refine AW.rgs [.no, .w, .no] [4] [] (P := ((-2147483648) ≤ n ∧ n ≤ 2147483647)) (l' := [(4, .e (.c (.d (D.lit (.int .i32 n)))))]) (g' := []) (nx' := 1) zk ⟨by omega, by omega⟩ ?_
 refine AW.ret ?_
 exact EndP.of (.inr rfl) [] (P := ((n : Int) = n)) zk rfl
theorem K_mean4 (b : Bool) (n : Int) (h : -2147483648 ≤ n ∧ n ≤ 2147483647) : Fun 73 [.agg [iC 4, .d (D.lit (.bool (b)))], iE n] (toG []) 0 (.e (.c (.d (D.lit (.int .i32 (satI ((n + 128) / 256))))))) (toG []) 0 := by
 refine Fun.mk (n := 26) Tryd.func73 rfl rfl (Nat.le_of_ble_eq_true rfl) ?_
 intro cx hcx
 refine AW.rgs [.no, .no] [1, 2] [0] (P := True) (l' := [(1, iV n), (2, rV 0 0)]) (g' := [(0, some (105, .ds [iD 4, D.lit (.bool (b))]))]) (nx' := 1) zk trivial ?_
 refine AW.seq ?_
 refine AW.rgs [.no, .no] [1, 6] [] (P := True) (l' := [(1, iV n), (6, iV 4)]) (g' := []) (nx' := 1) zk trivial ?_
 refine AW.block ?_
 refine AW.rgs [.b false, .no] [1, 6, 7] [] (P := (¬ ((4 : Int) = 1))) (l' := [(1, iV n), (6, iV 4), (7, .e (.c (.d (D.lit (.bool false)))))]) (g' := []) (nx' := 1) zk zo ?_
 refine AW.cond_f (.tmp (Look.of rfl)) ?_
 refine AW.rgs [.b false, .no] [1, 6, 13] [] (P := (¬ ((4 : Int) = 2))) (l' := [(1, iV n), (6, iV 4), (13, .e (.c (.d (D.lit (.bool false)))))]) (g' := []) (nx' := 1) zk zo ?_
 refine AW.cond_f (.tmp (Look.of rfl)) ?_
 refine AW.rgs [.b false, .no] [1, 18] [] (P := (¬ ((4 : Int) = 3))) (l' := [(1, iV n), (18, .e (.c (.d (D.lit (.bool false)))))]) (g' := []) (nx' := 1) zk zo ?_
 refine AW.cond_f (.tmp (Look.of rfl)) ?_
 refine AW.skip ?_
 have hx1 : ((((-8388608) : Int) ≤ (satI ((n + 128) / 256))) ∧ ((satI ((n + 128) / 256)) ≤ 8388607)) := satI_smp ((n + 128) / 256)
 refine AW.rgs [.no, .w, .n 8, .call [] (.e (.c (.d (D.lit (.int .i32 (satI ((n + 128) / 256))))))) [] 0 [] none, .no] [4] [] (P := ((-9223372036854775808) ≤ (n + 128) ∧ (n + 128) ≤ 9223372036854775807) ∧ ((8 : Int) = 8) ∧ ((8 : Nat) ≤ 64) ∧ (_)) (l' := [(4, .e (.c (.d (D.lit (.int .i32 (satI ((n + 128) / 256)))))))]) (g' := []) (nx' := 1) zk ⟨⟨by omega, by omega⟩, rfl, zo, (G_Sat ((n + 128) / 256) zo)⟩ ?_
 refine AW.ret ?_
 exact EndP.of (.inr rfl) [] (P := (((satI ((n + 128) / 256)) : Int) = (satI ((n + 128) / 256)))) zk rfl
end Go.Proofs.YtigiolfloefjnaaDoor
