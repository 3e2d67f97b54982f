/- Encodings of samples. No statement is proved here. -/
import Derived.Test.YtigiolfloefjnaaDoorZL04K
namespace Go.Proofs.YtigiolfloefjnaaDoor
open Go.ChangeShapes Go.WideShapes Go.ChangeAt Go.RowKit
set_option linter.unusedVariables false
set_option linter.unusedSimpArgs false
set_option maxHeartbeats 4000000
set_option maxRecDepth 100000
theorem K_get1 (l : List Int) (hn : List.length l = 1) (hb : Byt l) : Fun 74 [.agg [iC 1, .d (D.lit (.bool false))], .c (.d (D.sl (dI .u8 l) 1))] (toG []) 0 (iV (List.getD l 0 0)) (toG []) 0 := by
 refine Fun.mk (n := 41) Tryd.func74 rfl rfl (Nat.le_of_ble_eq_true rfl) ?_
 intro cx hcx
 refine AW.rgs [.no, .no] [1, 2] [0] (P := True) (l' := [(1, .e (.c (.d (D.sl (dI .u8 l) 1)))), (2, rV 0 0)]) (g' := [(0, some (105, .ds [iD 1, D.lit (.bool false)]))]) (nx' := 1) zk trivial ?_
 refine AW.rgs [.no] [1, 2, 5] [0] (P := True) (l' := [(1, .e (.c (.d (D.sl (dI .u8 l) 1)))), (2, rV 0 0), (5, .e (.c (.d (D.lit (.int .u64 0)))))]) (g' := [(0, some (105, .ds [iD 1, D.lit (.bool false)]))]) (nx' := 1) zk trivial ?_
 refine AW.seq ?_
 refine AW.rgs [.no, .no, .no] [1, 2, 5, 9, 10] [0] (P := True) (l' := [(1, .e (.c (.d (D.sl (dI .u8 l) 1)))), (2, rV 0 0), (5, .e (.c (.d (D.lit (.int .u64 0))))), (9, iV 1), (10, iV 0)]) (g' := [(0, some (105, .ds [iD 1, D.lit (.bool false)]))]) (nx' := 1) zk trivial ?_
 refine AW.block ?_
 refine AW.rounds 2 ?_
 refine AWr.s ?_
 refine AW.rgs [.b true] [1, 2, 5, 9, 10, 11] [0] (P := (((0 : Int) < 1))) (l' := [(1, .e (.c (.d (D.sl (dI .u8 l) 1)))), (2, rV 0 0), (5, .e (.c (.d (D.lit (.int .u64 0))))), (9, iV 1), (10, iV 0), (11, .e (.c (.d (D.lit (.bool true)))))]) (g' := [(0, some (105, .ds [iD 1, D.lit (.bool false)]))]) (nx' := 1) zk zo ?_
 refine AW.seq ?_
 refine AW.cond_t (.tmp (Look.of rfl)) ?_
 refine AW.skip ?_
 refine AW.seq ?_
 refine AW.block ?_
 refine AW.rgs [.no, .no] [1, 2, 5, 6, 9, 10] [0] (P := True) (l' := [(1, .e (.c (.d (D.sl (dI .u8 l) 1)))), (2, rV 0 0), (5, .e (.c (.d (D.lit (.int .u64 0))))), (6, iV 0), (9, iV 1), (10, iV 0)]) (g' := [(0, some (105, .ds [iD 1, D.lit (.bool false)]))]) (nx' := 1) zk trivial ?_
 have hx1 : 0 ≤ (List.getD l 0 0) ∧ (List.getD l 0 0) ≤ 255 := hb.at 0 zo
 refine AW.rg [.no, .no, .no, .no, .call [] (iV 0) [] 0 [] none, .n 0, .d (D.lit (.int .u8 (List.getD l 0 0))), .w, .no, .w, .n 0, .i ((List.getD l 0 0) * 1), .no] [1, 2, 5, 9, 10] [0] (P := (_) ∧ ((0 : Int) = 0) ∧ ((0 : Nat) < 1) ∧ ((List.drop 0 (dI .u8 l))[0]? = some (D.lit (.int .u8 (List.getD l 0 0)))) ∧ (0 ≤ (List.getD l 0 0) ∧ (List.getD l 0 0) ≤ 18446744073709551615) ∧ ((-9223372036854775808) ≤ (0 : Int) ∧ (0 : Int) ≤ 9223372036854775807) ∧ ((0 : Int) = 0) ∧ ((0 : Nat) ≤ 64) ∧ (0 ≤ ((List.getD l 0 0) * 1) ∧ ((List.getD l 0 0) * 1) ≤ 18446744073709551615) ∧ (bitsI .or .u64 0 ((List.getD l 0 0) * 1) = ((List.getD l 0 0) * 1))) (l' := [(1, .e (.c (.d (D.sl (dI .u8 l) 1)))), (2, rV 0 0), (5, .e (.c (.d (D.lit (.int .u64 ((List.getD l 0 0) * 1)))))), (9, iV 1), (10, iV 0)]) (g' := [(0, some (105, .ds [iD 1, D.lit (.bool false)]))]) (nx' := 1) zk ⟨(K_place_l 1 0 zo zo), rfl, zo, (dI_at _ _ _ (by first | omega | (rw [dI_len]; omega) | (simp [dI_len] <;> omega) | rfl)), ⟨by omega, by omega⟩, ⟨by omega, by omega⟩, rfl, zo, ⟨by omega, by omega⟩, (or_z .u64 (by simp) zo).1⟩ ?_
 refine AW.rg [.w, .no] [1, 2, 5, 9, 10] [0] (P := ((-9223372036854775808) ≤ (1 : Int) ∧ (1 : Int) ≤ 9223372036854775807)) (l' := [(1, .e (.c (.d (D.sl (dI .u8 l) 1)))), (2, rV 0 0), (5, .e (.c (.d (D.lit (.int .u64 ((List.getD l 0 0) * 1)))))), (9, iV 1), (10, iV 1)]) (g' := [(0, some (105, .ds [iD 1, D.lit (.bool false)]))]) (nx' := 1) zk ⟨by omega, by omega⟩ ?_
 refine AWr.s ?_
 refine AW.rgs [.b false] [1, 2, 5, 9, 10, 11] [0] (P := (¬ ((1 : Int) < 1))) (l' := [(1, .e (.c (.d (D.sl (dI .u8 l) 1)))), (2, rV 0 0), (5, .e (.c (.d (D.lit (.int .u64 ((List.getD l 0 0) * 1)))))), (9, iV 1), (10, iV 1), (11, .e (.c (.d (D.lit (.bool false)))))]) (g' := [(0, some (105, .ds [iD 1, D.lit (.bool false)]))]) (nx' := 1) zk zo ?_
 refine AW.seq ?_
 refine AW.cond_f (.tmp (Look.of rfl)) ?_
 refine AW.exit ?_
 refine AW.seq ?_
 refine AW.rgs [.no, .no, .b true] [2, 5, 28] [0] (P := (((1 : Int) = 1))) (l' := [(2, rV 0 0), (5, .e (.c (.d (D.lit (.int .u64 ((List.getD l 0 0) * 1)))))), (28, .e (.c (.d (D.lit (.bool true)))))]) (g' := [(0, some (105, .ds [iD 1, D.lit (.bool false)]))]) (nx' := 1) zk zo ?_
 refine AW.cond_t (.tmp (Look.of rfl)) ?_
 refine AW.rgs [.no, .w, .no] [4] [] (P := ((-9223372036854775808) ≤ ((List.getD l 0 0) * 1) ∧ ((List.getD l 0 0) * 1) ≤ 9223372036854775807)) (l' := [(4, iV ((List.getD l 0 0) * 1))]) (g' := []) (nx' := 1) zk ⟨by omega, by omega⟩ ?_
 refine AW.ret ?_
 exact EndP.of (.inr rfl) [] (P := (((List.getD l 0 0) : Int) = ((List.getD l 0 0) * 1))) zk (by first | rfl | omega | (unfold sgn; split <;> omega))
theorem K_mean1 (b : Bool) (n : Int) (h : 0 ≤ n ∧ n ≤ 255) : Fun 73 [.agg [iC 1, .d (D.lit (.bool (b)))], iE n] (toG []) 0 (.e (.c (.d (D.lit (.int .i32 ((n - 128) * 65536)))))) (toG []) 0 := by
 refine Fun.mk (n := 26) Tryd.func73 rfl rfl (Nat.le_of_ble_eq_true rfl) ?_
 intro cx hcx
 refine AW.rgs [.no, .no] [1, 2] [0] (P := True) (l' := [(1, iV n), (2, rV 0 0)]) (g' := [(0, some (105, .ds [iD 1, D.lit (.bool (b))]))]) (nx' := 1) zk trivial ?_
 refine AW.seq ?_
 refine AW.rgs [.no, .no] [1, 6] [] (P := True) (l' := [(1, iV n), (6, iV 1)]) (g' := []) (nx' := 1) zk trivial ?_
 refine AW.block ?_
 refine AW.rgs [.b true, .no] [1, 6, 7] [] (P := (((1 : Int) = 1))) (l' := [(1, iV n), (6, iV 1), (7, .e (.c (.d (D.lit (.bool true)))))]) (g' := []) (nx' := 1) zk zo ?_
 refine AW.cond_t (.tmp (Look.of rfl)) ?_
 refine AW.rgs [.no, .w, .n 16, .w, .no] [4] [] (P := ((-9223372036854775808) ≤ (n - 128) ∧ (n - 128) ≤ 9223372036854775807) ∧ ((16 : Int) = 16) ∧ ((16 : Nat) ≤ 64) ∧ ((-9223372036854775808) ≤ ((n - 128) * 65536) ∧ ((n - 128) * 65536) ≤ 9223372036854775807) ∧ ((-2147483648) ≤ ((n - 128) * 65536) ∧ ((n - 128) * 65536) ≤ 2147483647)) (l' := [(4, .e (.c (.d (D.lit (.int .i32 ((n - 128) * 65536))))))]) (g' := []) (nx' := 1) zk ⟨⟨by omega, by omega⟩, rfl, zo, ⟨by omega, by omega⟩, ⟨by omega, by omega⟩⟩ ?_
 refine AW.ret ?_
 exact EndP.of (.inr rfl) [] (P := ((((n - 128) * 65536) : Int) = ((n - 128) * 65536))) zk rfl
theorem K_integer2 (b : Bool) (n : Int) (h : -8388608 ≤ n ∧ n ≤ 8388607) : Fun 60 [.agg [iC 2, .d (D.lit (.bool (b)))], .c (.d (D.lit (.int .i32 n)))] (toG []) 0 (iV (min ((n + 128) / 256) 32767)) (toG []) 0 := by
 refine Fun.mk (n := 28) Tryd.func60 rfl rfl (Nat.le_of_ble_eq_true rfl) ?_
 intro cx hcx
 refine AW.rgs [.no, .no] [1, 2] [0] (P := True) (l' := [(1, .e (.c (.d (D.lit (.int .i32 n))))), (2, rV 0 0)]) (g' := [(0, some (105, .ds [iD 2, D.lit (.bool (b))]))]) (nx' := 1) zk trivial ?_
 refine AW.rgs [.no, .w, .no] [2, 5] [0] (P := ((-9223372036854775808) ≤ n ∧ n ≤ 9223372036854775807)) (l' := [(2, rV 0 0), (5, iV n)]) (g' := [(0, some (105, .ds [iD 2, D.lit (.bool (b))]))]) (nx' := 1) zk ⟨by omega, by omega⟩ ?_
 refine AW.seq ?_
 refine AW.rgs [.no, .no] [5, 9] [] (P := True) (l' := [(5, iV n), (9, iV 2)]) (g' := []) (nx' := 1) zk trivial ?_
 refine AW.block ?_
 refine AW.rgs [.b false, .no] [5, 9, 10] [] (P := (¬ ((2 : Int) = 1))) (l' := [(5, iV n), (9, iV 2), (10, .e (.c (.d (D.lit (.bool false)))))]) (g' := []) (nx' := 1) zk zo ?_
 refine AW.cond_f (.tmp (Look.of rfl)) ?_
 refine AW.rgs [.b true, .no] [5, 9, 17] [] (P := (((2 : Int) = 2))) (l' := [(5, iV n), (9, iV 2), (17, .e (.c (.d (D.lit (.bool true)))))]) (g' := []) (nx' := 1) zk zo ?_
 refine AW.cond_t (.tmp (Look.of rfl)) ?_
 refine AW.rgs [.no, .w, .n 8, .no, .no] [4] [] (P := ((-9223372036854775808) ≤ (n + 128) ∧ (n + 128) ≤ 9223372036854775807) ∧ ((8 : Int) = 8) ∧ ((8 : Nat) ≤ 64)) (l' := [(4, iV (min ((n + 128) / 256) 32767))]) (g' := []) (nx' := 1) zk ⟨⟨by omega, by omega⟩, rfl, zo⟩ ?_
 refine AW.ret ?_
 exact EndP.of (.inr rfl) [] (P := (((min ((n + 128) / 256) 32767) : Int) = (min ((n + 128) / 256) 32767))) zk rfl
theorem K_put2 (bs : List Int) (o : Nat) (x : Int) (ho : o + 2 ≤ List.length bs) (hx : -2147483648 ≤ x ∧ x ≤ 2147483647) : Fun 59 [.agg [iC 2, .d (D.lit (.bool false))], .c (.own 0 o 2 1 false), iE x] (toG [(0, some (5, .ds (dI .u8 bs)))]) 1 (.tup []) (toG [(0, some (5, .ds (dI .u8 (List.set (List.set bs (o + 0) ((x / 1) % 256)) (o + 1) ((x / 256) % 256)))))]) 1 := by
 refine Fun.mk (n := 23) Tryd.func59 rfl rfl (Nat.le_of_ble_eq_true rfl) ?_
 intro cx hcx
 refine AW.rgs [.no] [1, 2, 3] [0, 1] (P := True) (l' := [(1, .e (.c (.own 0 o 2 1 false))), (2, iV x), (3, rV 1 0)]) (g' := [(0, some (5, .ds (dI .u8 bs))), (1, some (105, .ds [iD 2, D.lit (.bool false)]))]) (nx' := 2) zk trivial ?_
 refine AW.rgs [.no, .no, .no] [1, 2, 3, 8, 9] [0, 1] (P := True) (l' := [(1, .e (.c (.own 0 o 2 1 false))), (2, iV x), (3, rV 1 0), (8, iV 2), (9, iV 0)]) (g' := [(0, some (5, .ds (dI .u8 bs))), (1, some (105, .ds [iD 2, D.lit (.bool false)]))]) (nx' := 2) zk trivial ?_
 refine AW.block ?_
 refine AW.rounds 3 ?_
 refine AWr.s ?_
 refine AW.rgs [.b true] [1, 2, 3, 8, 9, 10] [0, 1] (P := (((0 : Int) < 2))) (l' := [(1, .e (.c (.own 0 o 2 1 false))), (2, iV x), (3, rV 1 0), (8, iV 2), (9, iV 0), (10, .e (.c (.d (D.lit (.bool true)))))]) (g' := [(0, some (5, .ds (dI .u8 bs))), (1, some (105, .ds [iD 2, D.lit (.bool false)]))]) (nx' := 2) zk zo ?_
 refine AW.seq ?_
 refine AW.cond_t (.tmp (Look.of rfl)) ?_
 refine AW.skip ?_
 refine AW.seq ?_
 refine AW.block ?_
 refine AW.rgs [.no, .no] [1, 2, 3, 6, 8, 9] [0, 1] (P := True) (l' := [(1, .e (.c (.own 0 o 2 1 false))), (2, iV x), (3, rV 1 0), (6, iV 0), (8, iV 2), (9, iV 0)]) (g' := [(0, some (5, .ds (dI .u8 bs))), (1, some (105, .ds [iD 2, D.lit (.bool false)]))]) (nx' := 2) zk trivial ?_
 refine AW.rg [.no, .no, .no, .call [] (iV 0) [] 0 [] none, .no, .no, .w, .n 0, .i ((x / 1) % 256), .n2 0 (o + 0), .ds (dI .u8 (List.set bs (o + 0) ((x / 1) % 256)))] [1, 2, 3, 8, 9] [0, 1] (P := (_) ∧ ((-9223372036854775808) ≤ (0 : Int) ∧ (0 : Int) ≤ 9223372036854775807) ∧ ((0 : Int) = 0) ∧ ((0 : Nat) ≤ 64) ∧ (IntKind.u8.wrap (x / 1) = ((x / 1) % 256)) ∧ ((0 : Int) = 0) ∧ ((0 : Nat) < 2) ∧ (o + 0 * 1 = (o + 0)) ∧ ((o + 0) + 1 ≤ (dI .u8 bs).length) ∧ (updD (dI .u8 bs) (o + 0) [D.lit (.int .u8 ((x / 1) % 256))] = dI .u8 (List.set bs (o + 0) ((x / 1) % 256)))) (l' := [(1, .e (.c (.own 0 o 2 1 false))), (2, iV x), (3, rV 1 0), (8, iV 2), (9, iV 0)]) (g' := [(0, some (5, .ds (dI .u8 (List.set bs (o + 0) ((x / 1) % 256))))), (1, some (105, .ds [iD 2, D.lit (.bool false)]))]) (nx' := 2) zk ⟨(K_place_l 2 0 zo zo), ⟨by omega, by omega⟩, rfl, zo, (wrap_u8 _), rfl, zo, zo, (by first | omega | (rw [dI_len]; omega) | (simp [dI_len] <;> omega) | rfl), (dI_set _ _ _ _)⟩ ?_
 refine AW.rg [.w, .no] [1, 2, 3, 8, 9] [0, 1] (P := ((-9223372036854775808) ≤ (1 : Int) ∧ (1 : Int) ≤ 9223372036854775807)) (l' := [(1, .e (.c (.own 0 o 2 1 false))), (2, iV x), (3, rV 1 0), (8, iV 2), (9, iV 1)]) (g' := [(0, some (5, .ds (dI .u8 (List.set bs (o + 0) ((x / 1) % 256))))), (1, some (105, .ds [iD 2, D.lit (.bool false)]))]) (nx' := 2) zk ⟨by omega, by omega⟩ ?_
 refine AWr.s ?_
 refine AW.rgs [.b true] [1, 2, 3, 8, 9, 10] [0, 1] (P := (((1 : Int) < 2))) (l' := [(1, .e (.c (.own 0 o 2 1 false))), (2, iV x), (3, rV 1 0), (8, iV 2), (9, iV 1), (10, .e (.c (.d (D.lit (.bool true)))))]) (g' := [(0, some (5, .ds (dI .u8 (List.set bs (o + 0) ((x / 1) % 256))))), (1, some (105, .ds [iD 2, D.lit (.bool false)]))]) (nx' := 2) zk zo ?_
 refine AW.seq ?_
 refine AW.cond_t (.tmp (Look.of rfl)) ?_
 refine AW.skip ?_
 refine AW.seq ?_
 refine AW.block ?_
 refine AW.rgs [.no, .no] [1, 2, 3, 6, 8, 9] [0, 1] (P := True) (l' := [(1, .e (.c (.own 0 o 2 1 false))), (2, iV x), (3, rV 1 0), (6, iV 1), (8, iV 2), (9, iV 1)]) (g' := [(0, some (5, .ds (dI .u8 (List.set bs (o + 0) ((x / 1) % 256))))), (1, some (105, .ds [iD 2, D.lit (.bool false)]))]) (nx' := 2) zk trivial ?_
 refine AW.rg [.no, .no, .no, .call [] (iV 1) [] 0 [] none, .no, .no, .w, .n 8, .i ((x / 256) % 256), .n2 1 (o + 1), .ds (dI .u8 (List.set (List.set bs (o + 0) ((x / 1) % 256)) (o + 1) ((x / 256) % 256)))] [1, 2, 3, 8, 9] [0, 1] (P := (_) ∧ ((-9223372036854775808) ≤ (8 : Int) ∧ (8 : Int) ≤ 9223372036854775807) ∧ ((8 : Int) = 8) ∧ ((8 : Nat) ≤ 64) ∧ (IntKind.u8.wrap (x / 256) = ((x / 256) % 256)) ∧ ((1 : Int) = 1) ∧ ((1 : Nat) < 2) ∧ (o + 1 * 1 = (o + 1)) ∧ ((o + 1) + 1 ≤ (dI .u8 (List.set bs (o + 0) ((x / 1) % 256))).length) ∧ (updD (dI .u8 (List.set bs (o + 0) ((x / 1) % 256))) (o + 1) [D.lit (.int .u8 ((x / 256) % 256))] = dI .u8 (List.set (List.set bs (o + 0) ((x / 1) % 256)) (o + 1) ((x / 256) % 256)))) (l' := [(1, .e (.c (.own 0 o 2 1 false))), (2, iV x), (3, rV 1 0), (8, iV 2), (9, iV 1)]) (g' := [(0, some (5, .ds (dI .u8 (List.set (List.set bs (o + 0) ((x / 1) % 256)) (o + 1) ((x / 256) % 256))))), (1, some (105, .ds [iD 2, D.lit (.bool false)]))]) (nx' := 2) zk ⟨(K_place_l 2 1 zo zo), ⟨by omega, by omega⟩, rfl, zo, (wrap_u8 _), rfl, zo, zo, (by first | omega | (rw [dI_len]; omega) | (simp [dI_len] <;> omega) | rfl), (dI_set _ _ _ _)⟩ ?_
 refine AW.rg [.w, .no] [1, 2, 3, 8, 9] [0, 1] (P := ((-9223372036854775808) ≤ (2 : Int) ∧ (2 : Int) ≤ 9223372036854775807)) (l' := [(1, .e (.c (.own 0 o 2 1 false))), (2, iV x), (3, rV 1 0), (8, iV 2), (9, iV 2)]) (g' := [(0, some (5, .ds (dI .u8 (List.set (List.set bs (o + 0) ((x / 1) % 256)) (o + 1) ((x / 256) % 256))))), (1, some (105, .ds [iD 2, D.lit (.bool false)]))]) (nx' := 2) zk ⟨by omega, by omega⟩ ?_
 refine AWr.s ?_
 refine AW.rgs [.b false] [1, 2, 3, 8, 9, 10] [0, 1] (P := (¬ ((2 : Int) < 2))) (l' := [(1, .e (.c (.own 0 o 2 1 false))), (2, iV x), (3, rV 1 0), (8, iV 2), (9, iV 2), (10, .e (.c (.d (D.lit (.bool false)))))]) (g' := [(0, some (5, .ds (dI .u8 (List.set (List.set bs (o + 0) ((x / 1) % 256)) (o + 1) ((x / 256) % 256))))), (1, some (105, .ds [iD 2, D.lit (.bool false)]))]) (nx' := 2) zk zo ?_
 refine AW.seq ?_
 refine AW.cond_f (.tmp (Look.of rfl)) ?_
 refine AW.exit ?_
 exact EndP.of (.inl rfl) [] (P := (((dI .u8 (List.set (List.set bs (o + 0) ((x / 1) % 256)) (o + 1) ((x / 256) % 256))) : List D) = (dI .u8 (List.set (List.set bs (o + 0) ((x / 1) % 256)) (o + 1) ((x / 256) % 256))))) zk rfl
end Go.Proofs.YtigiolfloefjnaaDoor
