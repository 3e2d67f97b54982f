/- Encodings of samples. No statement is proved here. -/
import Derived.Test.YtigiolfloefjnaaDoorZL04T
namespace Go.Proofs.YtigiolfloefjnaaDoor
open Go.ChangeShapes Go.WideShapes Go.ChangeAt Go.RowKit
set_option linter.unusedVariables false
set_option linter.unusedSimpArgs false
set_option maxHeartbeats 4000000
set_option maxRecDepth 100000
theorem K_integer1 (b : Bool) (n : Int) (h : -8388608 ≤ n ∧ n ≤ 8388607) : Fun 60 [.agg [iC 1, .d (D.lit (.bool (b)))], .c (.d (D.lit (.int .i32 n)))] (toG []) 0 (iV (min (128 + ((n + 32768) / 65536)) 255)) (toG []) 0 := by
 refine Fun.mk (n := 28) Tryd.func60 rfl rfl (Nat.le_of_ble_eq_true rfl) ?_
 intro cx hcx
 refine AW.rgs [.no, .no] [1, 2] [0] (P := True) (l' := [(1, .e (.c (.d (D.lit (.int .i32 n))))), (2, rV 0 0)]) (g' := [(0, some (105, .ds [iD 1, D.lit (.bool (b))]))]) (nx' := 1) zk trivial ?_
 refine AW.rgs [.no, .w, .no] [2, 5] [0] (P := ((-9223372036854775808) ≤ n ∧ n ≤ 9223372036854775807)) (l' := [(2, rV 0 0), (5, iV n)]) (g' := [(0, some (105, .ds [iD 1, D.lit (.bool (b))]))]) (nx' := 1) zk ⟨by omega, by omega⟩ ?_
 refine AW.seq ?_
 refine AW.rgs [.no, .no] [5, 9] [] (P := True) (l' := [(5, iV n), (9, iV 1)]) (g' := []) (nx' := 1) zk trivial ?_
 refine AW.block ?_
 refine AW.rgs [.b true, .no] [5, 9, 10] [] (P := (((1 : Int) = 1))) (l' := [(5, iV n), (9, iV 1), (10, .e (.c (.d (D.lit (.bool true)))))]) (g' := []) (nx' := 1) zk zo ?_
 refine AW.cond_t (.tmp (Look.of rfl)) ?_
 refine AW.rgs [.no, .w, .n 16, .w, .no, .no] [4] [] (P := ((-9223372036854775808) ≤ (n + 32768) ∧ (n + 32768) ≤ 9223372036854775807) ∧ ((16 : Int) = 16) ∧ ((16 : Nat) ≤ 64) ∧ ((-9223372036854775808) ≤ (128 + ((n + 32768) / 65536)) ∧ (128 + ((n + 32768) / 65536)) ≤ 9223372036854775807)) (l' := [(4, iV (min (128 + ((n + 32768) / 65536)) 255))]) (g' := []) (nx' := 1) zk ⟨⟨by omega, by omega⟩, rfl, zo, ⟨by omega, by omega⟩⟩ ?_
 refine AW.ret ?_
 exact EndP.of (.inr rfl) [] (P := (((min (128 + ((n + 32768) / 65536)) 255) : Int) = (min (128 + ((n + 32768) / 65536)) 255))) zk rfl
theorem K_integer3 (b : Bool) (n : Int) (h : -8388608 ≤ n ∧ n ≤ 8388607) : Fun 60 [.agg [iC 3, .d (D.lit (.bool (b)))], .c (.d (D.lit (.int .i32 n)))] (toG []) 0 (iV n) (toG []) 0 := by
 refine Fun.mk (n := 28) Tryd.func60 rfl rfl (Nat.le_of_ble_eq_true rfl) ?_
 intro cx hcx
 refine AW.rgs [.no, .no] [1, 2] [0] (P := True) (l' := [(1, .e (.c (.d (D.lit (.int .i32 n))))), (2, rV 0 0)]) (g' := [(0, some (105, .ds [iD 3, D.lit (.bool (b))]))]) (nx' := 1) zk trivial ?_
 refine AW.rgs [.no, .w, .no] [2, 5] [0] (P := ((-9223372036854775808) ≤ n ∧ n ≤ 9223372036854775807)) (l' := [(2, rV 0 0), (5, iV n)]) (g' := [(0, some (105, .ds [iD 3, D.lit (.bool (b))]))]) (nx' := 1) zk ⟨by omega, by omega⟩ ?_
 refine AW.seq ?_
 refine AW.rgs [.no, .no] [5, 9] [] (P := True) (l' := [(5, iV n), (9, iV 3)]) (g' := []) (nx' := 1) zk trivial ?_
 refine AW.block ?_
 refine AW.rgs [.b false, .no] [5, 9, 10] [] (P := (¬ ((3 : Int) = 1))) (l' := [(5, iV n), (9, iV 3), (10, .e (.c (.d (D.lit (.bool false)))))]) (g' := []) (nx' := 1) zk zo ?_
 refine AW.cond_f (.tmp (Look.of rfl)) ?_
 refine AW.rgs [.b false, .no] [5, 9, 17] [] (P := (¬ ((3 : Int) = 2))) (l' := [(5, iV n), (9, iV 3), (17, .e (.c (.d (D.lit (.bool false)))))]) (g' := []) (nx' := 1) zk zo ?_
 refine AW.cond_f (.tmp (Look.of rfl)) ?_
 refine AW.rgs [.b true, .no] [5, 23] [] (P := (((3 : Int) = 3))) (l' := [(5, iV n), (23, .e (.c (.d (D.lit (.bool true)))))]) (g' := []) (nx' := 1) zk zo ?_
 refine AW.cond_t (.tmp (Look.of rfl)) ?_
 refine AW.rgs [.no, .no] [4] [] (P := True) (l' := [(4, iV n)]) (g' := []) (nx' := 1) zk trivial ?_
 refine AW.ret ?_
 exact EndP.of (.inr rfl) [] (P := ((n : Int) = n)) zk rfl
theorem K_integer4 (b : Bool) (n : Int) (h : -8388608 ≤ n ∧ n ≤ 8388607) : Fun 60 [.agg [iC 4, .d (D.lit (.bool (b)))], .c (.d (D.lit (.int .i32 n)))] (toG []) 0 (iV (n * 256)) (toG []) 0 := by
 refine Fun.mk (n := 28) Tryd.func60 rfl rfl (Nat.le_of_ble_eq_true rfl) ?_
 intro cx hcx
 refine AW.rgs [.no, .no] [1, 2] [0] (P := True) (l' := [(1, .e (.c (.d (D.lit (.int .i32 n))))), (2, rV 0 0)]) (g' := [(0, some (105, .ds [iD 4, D.lit (.bool (b))]))]) (nx' := 1) zk trivial ?_
 refine AW.rgs [.no, .w, .no] [2, 5] [0] (P := ((-9223372036854775808) ≤ n ∧ n ≤ 9223372036854775807)) (l' := [(2, rV 0 0), (5, iV n)]) (g' := [(0, some (105, .ds [iD 4, D.lit (.bool (b))]))]) (nx' := 1) zk ⟨by omega, by omega⟩ ?_
 refine AW.seq ?_
 refine AW.rgs [.no, .no] [5, 9] [] (P := True) (l' := [(5, iV n), (9, iV 4)]) (g' := []) (nx' := 1) zk trivial ?_
 refine AW.block ?_
 refine AW.rgs [.b false, .no] [5, 9, 10] [] (P := (¬ ((4 : Int) = 1))) (l' := [(5, iV n), (9, iV 4), (10, .e (.c (.d (D.lit (.bool false)))))]) (g' := []) (nx' := 1) zk zo ?_
 refine AW.cond_f (.tmp (Look.of rfl)) ?_
 refine AW.rgs [.b false, .no] [5, 9, 17] [] (P := (¬ ((4 : Int) = 2))) (l' := [(5, iV n), (9, iV 4), (17, .e (.c (.d (D.lit (.bool false)))))]) (g' := []) (nx' := 1) zk zo ?_
 refine AW.cond_f (.tmp (Look.of rfl)) ?_
 refine AW.rgs [.b false, .no] [5, 23] [] (P := (¬ ((4 : Int) = 3))) (l' := [(5, iV n), (23, .e (.c (.d (D.lit (.bool false)))))]) (g' := []) (nx' := 1) zk zo ?_
 refine AW.cond_f (.tmp (Look.of rfl)) ?_
 refine AW.skip ?_
 refine AW.rgs [.no, .n 8, .no] [4] [] (P := ((8 : Int) = 8) ∧ ((8 : Nat) ≤ 64) ∧ ((-9223372036854775808) ≤ (n * 256) ∧ (n * 256) ≤ 9223372036854775807)) (l' := [(4, iV (n * 256))]) (g' := []) (nx' := 1) zk ⟨rfl, zo, ⟨by omega, by omega⟩⟩ ?_
 refine AW.ret ?_
 exact EndP.of (.inr rfl) [] (P := (((n * 256) : Int) = (n * 256))) zk rfl
theorem zl04pe0 {p : Prop} (h : p := by first | omega | (rw [dI_len]; omega) | (simp [dI_len] <;> omega) | rfl) : p := h
theorem K_put1 (bs : List Int) (o : Nat) (x : Int) (ho : o + 1 ≤ List.length bs) (hx : -2147483648 ≤ x ∧ x ≤ 2147483647) : Fun 59 [.agg [iC 1, .d (D.lit (.bool false))], .c (.own 0 o 1 1 false), iE x] (toG [(0, some (5, .ds (dI .u8 bs)))]) 1 (.tup []) (toG [(0, some (5, .ds (dI .u8 (List.set bs (o + 0) ((x / 1) % 256)))))]) 1 := by
 refine Fun.mk (n := 23) Tryd.func59 rfl rfl (Nat.le_of_ble_eq_true rfl) ?_
 intro cx hcx
 refine AW.rgs [.no] [1, 2, 3] [0, 1] (P := True) (l' := [(1, .e (.c (.own 0 o 1 1 false))), (2, iV x), (3, rV 1 0)]) (g' := [(0, some (5, .ds (dI .u8 bs))), (1, some (105, .ds [iD 1, D.lit (.bool false)]))]) (nx' := 2) zk trivial ?_
 refine AW.rgs [.no, .no, .no] [1, 2, 3, 8, 9] [0, 1] (P := True) (l' := [(1, .e (.c (.own 0 o 1 1 false))), (2, iV x), (3, rV 1 0), (8, iV 1), (9, iV 0)]) (g' := [(0, some (5, .ds (dI .u8 bs))), (1, some (105, .ds [iD 1, D.lit (.bool false)]))]) (nx' := 2) zk trivial ?_
 refine AW.block ?_
 refine AW.rounds 2 ?_
 refine AWr.s ?_
 refine AW.rgs [.b true] [1, 2, 3, 8, 9, 10] [0, 1] (P := (((0 : Int) < 1))) (l' := [(1, .e (.c (.own 0 o 1 1 false))), (2, iV x), (3, rV 1 0), (8, iV 1), (9, iV 0), (10, .e (.c (.d (D.lit (.bool true)))))]) (g' := [(0, some (5, .ds (dI .u8 bs))), (1, some (105, .ds [iD 1, D.lit (.bool false)]))]) (nx' := 2) zk zo ?_
 refine AW.seq ?_
 refine AW.cond_t (.tmp (Look.of rfl)) ?_
 refine AW.skip ?_
 refine AW.seq ?_
 refine AW.block ?_
 refine AW.rgs [.no, .no] [1, 2, 3, 6, 8, 9] [0, 1] (P := True) (l' := [(1, .e (.c (.own 0 o 1 1 false))), (2, iV x), (3, rV 1 0), (6, iV 0), (8, iV 1), (9, iV 0)]) (g' := [(0, some (5, .ds (dI .u8 bs))), (1, some (105, .ds [iD 1, D.lit (.bool false)]))]) (nx' := 2) zk trivial ?_
 refine AW.rg [.no, .no, .no, .call [] (iV 0) [] 0 [] none, .no, .no, .w, .n 0, .i ((x / 1) % 256), .n2 0 (o + 0), .ds (dI .u8 (List.set bs (o + 0) ((x / 1) % 256)))] [1, 2, 3, 8, 9] [0, 1] (P := (_) ∧ ((-9223372036854775808) ≤ (0 : Int) ∧ (0 : Int) ≤ 9223372036854775807) ∧ ((0 : Int) = 0) ∧ ((0 : Nat) ≤ 64) ∧ (IntKind.u8.wrap (x / 1) = ((x / 1) % 256)) ∧ ((0 : Int) = 0) ∧ ((0 : Nat) < 1) ∧ (o + 0 * 1 = (o + 0)) ∧ ((o + 0) + 1 ≤ (dI .u8 bs).length) ∧ (updD (dI .u8 bs) (o + 0) [D.lit (.int .u8 ((x / 1) % 256))] = dI .u8 (List.set bs (o + 0) ((x / 1) % 256)))) (l' := [(1, .e (.c (.own 0 o 1 1 false))), (2, iV x), (3, rV 1 0), (8, iV 1), (9, iV 0)]) (g' := [(0, some (5, .ds (dI .u8 (List.set bs (o + 0) ((x / 1) % 256))))), (1, some (105, .ds [iD 1, D.lit (.bool false)]))]) (nx' := 2) zk ⟨(K_place_l 1 0 zo zo), ⟨by omega, by omega⟩, rfl, zo, (wrap_u8 _), rfl, zo, zo, zl04pe0, (dI_set _ _ _ _)⟩ ?_
 refine AW.rg [.w, .no] [1, 2, 3, 8, 9] [0, 1] (P := ((-9223372036854775808) ≤ (1 : Int) ∧ (1 : Int) ≤ 9223372036854775807)) (l' := [(1, .e (.c (.own 0 o 1 1 false))), (2, iV x), (3, rV 1 0), (8, iV 1), (9, iV 1)]) (g' := [(0, some (5, .ds (dI .u8 (List.set bs (o + 0) ((x / 1) % 256))))), (1, some (105, .ds [iD 1, D.lit (.bool false)]))]) (nx' := 2) zk ⟨by omega, by omega⟩ ?_
 refine AWr.s ?_
 refine AW.rgs [.b false] [1, 2, 3, 8, 9, 10] [0, 1] (P := (¬ ((1 : Int) < 1))) (l' := [(1, .e (.c (.own 0 o 1 1 false))), (2, iV x), (3, rV 1 0), (8, iV 1), (9, iV 1), (10, .e (.c (.d (D.lit (.bool false)))))]) (g' := [(0, some (5, .ds (dI .u8 (List.set bs (o + 0) ((x / 1) % 256))))), (1, some (105, .ds [iD 1, D.lit (.bool false)]))]) (nx' := 2) zk zo ?_
 refine AW.seq ?_
 refine AW.cond_f (.tmp (Look.of rfl)) ?_
 refine AW.exit ?_
 exact EndP.of (.inl rfl) [] (P := (((dI .u8 (List.set bs (o + 0) ((x / 1) % 256))) : List D) = (dI .u8 (List.set bs (o + 0) ((x / 1) % 256))))) zk rfl
theorem K_put3 (bs : List Int) (o : Nat) (x : Int) (ho : o + 2 ≤ List.length bs) (hx : -2147483648 ≤ x ∧ x ≤ 2147483647) : Fun 59 [.agg [iC 2, .d (D.lit (.bool true))], .c (.own 0 o 2 1 false), iE x] (toG [(0, some (5, .ds (dI .u8 bs)))]) 1 (.tup []) (toG [(0, some (5, .ds (dI .u8 (List.set (List.set bs (o + 1) ((x / 1) % 256)) (o + 0) ((x / 256) % 256)))))]) 1 := by
 refine Fun.mk (n := 23) Tryd.func59 rfl rfl (Nat.le_of_ble_eq_true rfl) ?_
 intro cx hcx
 refine AW.rgs [.no] [1, 2, 3] [0, 1] (P := True) (l' := [(1, .e (.c (.own 0 o 2 1 false))), (2, iV x), (3, rV 1 0)]) (g' := [(0, some (5, .ds (dI .u8 bs))), (1, some (105, .ds [iD 2, D.lit (.bool true)]))]) (nx' := 2) zk trivial ?_
 refine AW.rgs [.no, .no, .no] [1, 2, 3, 8, 9] [0, 1] (P := True) (l' := [(1, .e (.c (.own 0 o 2 1 false))), (2, iV x), (3, rV 1 0), (8, iV 2), (9, iV 0)]) (g' := [(0, some (5, .ds (dI .u8 bs))), (1, some (105, .ds [iD 2, D.lit (.bool true)]))]) (nx' := 2) zk trivial ?_
 refine AW.block ?_
 refine AW.rounds 3 ?_
 refine AWr.s ?_
 refine AW.rgs [.b true] [1, 2, 3, 8, 9, 10] [0, 1] (P := (((0 : Int) < 2))) (l' := [(1, .e (.c (.own 0 o 2 1 false))), (2, iV x), (3, rV 1 0), (8, iV 2), (9, iV 0), (10, .e (.c (.d (D.lit (.bool true)))))]) (g' := [(0, some (5, .ds (dI .u8 bs))), (1, some (105, .ds [iD 2, D.lit (.bool true)]))]) (nx' := 2) zk zo ?_
 refine AW.seq ?_
 refine AW.cond_t (.tmp (Look.of rfl)) ?_
 refine AW.skip ?_
 refine AW.seq ?_
 refine AW.block ?_
 refine AW.rgs [.no, .no] [1, 2, 3, 6, 8, 9] [0, 1] (P := True) (l' := [(1, .e (.c (.own 0 o 2 1 false))), (2, iV x), (3, rV 1 0), (6, iV 0), (8, iV 2), (9, iV 0)]) (g' := [(0, some (5, .ds (dI .u8 bs))), (1, some (105, .ds [iD 2, D.lit (.bool true)]))]) (nx' := 2) zk trivial ?_
 refine AW.rg [.no, .no, .no, .call [] (iV 1) [] 0 [] none, .no, .no, .w, .n 0, .i ((x / 1) % 256), .n2 1 (o + 1), .ds (dI .u8 (List.set bs (o + 1) ((x / 1) % 256)))] [1, 2, 3, 8, 9] [0, 1] (P := (_) ∧ ((-9223372036854775808) ≤ (0 : Int) ∧ (0 : Int) ≤ 9223372036854775807) ∧ ((0 : Int) = 0) ∧ ((0 : Nat) ≤ 64) ∧ (IntKind.u8.wrap (x / 1) = ((x / 1) % 256)) ∧ ((1 : Int) = 1) ∧ ((1 : Nat) < 2) ∧ (o + 1 * 1 = (o + 1)) ∧ ((o + 1) + 1 ≤ (dI .u8 bs).length) ∧ (updD (dI .u8 bs) (o + 1) [D.lit (.int .u8 ((x / 1) % 256))] = dI .u8 (List.set bs (o + 1) ((x / 1) % 256)))) (l' := [(1, .e (.c (.own 0 o 2 1 false))), (2, iV x), (3, rV 1 0), (8, iV 2), (9, iV 0)]) (g' := [(0, some (5, .ds (dI .u8 (List.set bs (o + 1) ((x / 1) % 256))))), (1, some (105, .ds [iD 2, D.lit (.bool true)]))]) (nx' := 2) zk ⟨(K_place_b 2 0 zo zo), ⟨by omega, by omega⟩, rfl, zo, (wrap_u8 _), rfl, zo, zo, zl04pe0, (dI_set _ _ _ _)⟩ ?_
 refine AW.rg [.w, .no] [1, 2, 3, 8, 9] [0, 1] (P := ((-9223372036854775808) ≤ (1 : Int) ∧ (1 : Int) ≤ 9223372036854775807)) (l' := [(1, .e (.c (.own 0 o 2 1 false))), (2, iV x), (3, rV 1 0), (8, iV 2), (9, iV 1)]) (g' := [(0, some (5, .ds (dI .u8 (List.set bs (o + 1) ((x / 1) % 256))))), (1, some (105, .ds [iD 2, D.lit (.bool true)]))]) (nx' := 2) zk ⟨by omega, by omega⟩ ?_
 refine AWr.s ?_
 refine AW.rgs [.b true] [1, 2, 3, 8, 9, 10] [0, 1] (P := (((1 : Int) < 2))) (l' := [(1, .e (.c (.own 0 o 2 1 false))), (2, iV x), (3, rV 1 0), (8, iV 2), (9, iV 1), (10, .e (.c (.d (D.lit (.bool true)))))]) (g' := [(0, some (5, .ds (dI .u8 (List.set bs (o + 1) ((x / 1) % 256))))), (1, some (105, .ds [iD 2, D.lit (.bool true)]))]) (nx' := 2) zk zo ?_
 refine AW.seq ?_
 refine AW.cond_t (.tmp (Look.of rfl)) ?_
 refine AW.skip ?_
 refine AW.seq ?_
 refine AW.block ?_
 refine AW.rgs [.no, .no] [1, 2, 3, 6, 8, 9] [0, 1] (P := True) (l' := [(1, .e (.c (.own 0 o 2 1 false))), (2, iV x), (3, rV 1 0), (6, iV 1), (8, iV 2), (9, iV 1)]) (g' := [(0, some (5, .ds (dI .u8 (List.set bs (o + 1) ((x / 1) % 256))))), (1, some (105, .ds [iD 2, D.lit (.bool true)]))]) (nx' := 2) zk trivial ?_
 refine AW.rg [.no, .no, .no, .call [] (iV 0) [] 0 [] none, .no, .no, .w, .n 8, .i ((x / 256) % 256), .n2 0 (o + 0), .ds (dI .u8 (List.set (List.set bs (o + 1) ((x / 1) % 256)) (o + 0) ((x / 256) % 256)))] [1, 2, 3, 8, 9] [0, 1] (P := (_) ∧ ((-9223372036854775808) ≤ (8 : Int) ∧ (8 : Int) ≤ 9223372036854775807) ∧ ((8 : Int) = 8) ∧ ((8 : Nat) ≤ 64) ∧ (IntKind.u8.wrap (x / 256) = ((x / 256) % 256)) ∧ ((0 : Int) = 0) ∧ ((0 : Nat) < 2) ∧ (o + 0 * 1 = (o + 0)) ∧ ((o + 0) + 1 ≤ (dI .u8 (List.set bs (o + 1) ((x / 1) % 256))).length) ∧ (updD (dI .u8 (List.set bs (o + 1) ((x / 1) % 256))) (o + 0) [D.lit (.int .u8 ((x / 256) % 256))] = dI .u8 (List.set (List.set bs (o + 1) ((x / 1) % 256)) (o + 0) ((x / 256) % 256)))) (l' := [(1, .e (.c (.own 0 o 2 1 false))), (2, iV x), (3, rV 1 0), (8, iV 2), (9, iV 1)]) (g' := [(0, some (5, .ds (dI .u8 (List.set (List.set bs (o + 1) ((x / 1) % 256)) (o + 0) ((x / 256) % 256))))), (1, some (105, .ds [iD 2, D.lit (.bool true)]))]) (nx' := 2) zk ⟨(K_place_b 2 1 zo zo), ⟨by omega, by omega⟩, rfl, zo, (wrap_u8 _), rfl, zo, zo, zl04pe0, (dI_set _ _ _ _)⟩ ?_
 refine AW.rg [.w, .no] [1, 2, 3, 8, 9] [0, 1] (P := ((-9223372036854775808) ≤ (2 : Int) ∧ (2 : Int) ≤ 9223372036854775807)) (l' := [(1, .e (.c (.own 0 o 2 1 false))), (2, iV x), (3, rV 1 0), (8, iV 2), (9, iV 2)]) (g' := [(0, some (5, .ds (dI .u8 (List.set (List.set bs (o + 1) ((x / 1) % 256)) (o + 0) ((x / 256) % 256))))), (1, some (105, .ds [iD 2, D.lit (.bool true)]))]) (nx' := 2) zk ⟨by omega, by omega⟩ ?_
 refine AWr.s ?_
 refine AW.rgs [.b false] [1, 2, 3, 8, 9, 10] [0, 1] (P := (¬ ((2 : Int) < 2))) (l' := [(1, .e (.c (.own 0 o 2 1 false))), (2, iV x), (3, rV 1 0), (8, iV 2), (9, iV 2), (10, .e (.c (.d (D.lit (.bool false)))))]) (g' := [(0, some (5, .ds (dI .u8 (List.set (List.set bs (o + 1) ((x / 1) % 256)) (o + 0) ((x / 256) % 256))))), (1, some (105, .ds [iD 2, D.lit (.bool true)]))]) (nx' := 2) zk zo ?_
 refine AW.seq ?_
 refine AW.cond_f (.tmp (Look.of rfl)) ?_
 refine AW.exit ?_
 exact EndP.of (.inl rfl) [] (P := (((dI .u8 (List.set (List.set bs (o + 1) ((x / 1) % 256)) (o + 0) ((x / 256) % 256))) : List D) = (dI .u8 (List.set (List.set bs (o + 1) ((x / 1) % 256)) (o + 0) ((x / 256) % 256))))) zk rfl
theorem K_put4 (bs : List Int) (o : Nat) (x : Int) (ho : o + 3 ≤ List.length bs) (hx : -2147483648 ≤ x ∧ x ≤ 2147483647) : Fun 59 [.agg [iC 3, .d (D.lit (.bool false))], .c (.own 0 o 3 1 false), iE x] (toG [(0, some (5, .ds (dI .u8 bs)))]) 1 (.tup []) (toG [(0, some (5, .ds (dI .u8 (List.set (List.set (List.set bs (o + 0) ((x / 1) % 256)) (o + 1) ((x / 256) % 256)) (o + 2) ((x / 65536) % 256)))))]) 1 := by
 refine Fun.mk (n := 23) Tryd.func59 rfl rfl (Nat.le_of_ble_eq_true rfl) ?_
 intro cx hcx
 refine AW.rgs [.no] [1, 2, 3] [0, 1] (P := True) (l' := [(1, .e (.c (.own 0 o 3 1 false))), (2, iV x), (3, rV 1 0)]) (g' := [(0, some (5, .ds (dI .u8 bs))), (1, some (105, .ds [iD 3, D.lit (.bool false)]))]) (nx' := 2) zk trivial ?_
 refine AW.rgs [.no, .no, .no] [1, 2, 3, 8, 9] [0, 1] (P := True) (l' := [(1, .e (.c (.own 0 o 3 1 false))), (2, iV x), (3, rV 1 0), (8, iV 3), (9, iV 0)]) (g' := [(0, some (5, .ds (dI .u8 bs))), (1, some (105, .ds [iD 3, D.lit (.bool false)]))]) (nx' := 2) zk trivial ?_
 refine AW.block ?_
 refine AW.rounds 4 ?_
 refine AWr.s ?_
 refine AW.rgs [.b true] [1, 2, 3, 8, 9, 10] [0, 1] (P := (((0 : Int) < 3))) (l' := [(1, .e (.c (.own 0 o 3 1 false))), (2, iV x), (3, rV 1 0), (8, iV 3), (9, iV 0), (10, .e (.c (.d (D.lit (.bool true)))))]) (g' := [(0, some (5, .ds (dI .u8 bs))), (1, some (105, .ds [iD 3, D.lit (.bool false)]))]) (nx' := 2) zk zo ?_
 refine AW.seq ?_
 refine AW.cond_t (.tmp (Look.of rfl)) ?_
 refine AW.skip ?_
 refine AW.seq ?_
 refine AW.block ?_
 refine AW.rgs [.no, .no] [1, 2, 3, 6, 8, 9] [0, 1] (P := True) (l' := [(1, .e (.c (.own 0 o 3 1 false))), (2, iV x), (3, rV 1 0), (6, iV 0), (8, iV 3), (9, iV 0)]) (g' := [(0, some (5, .ds (dI .u8 bs))), (1, some (105, .ds [iD 3, D.lit (.bool false)]))]) (nx' := 2) zk trivial ?_
 refine AW.rg [.no, .no, .no, .call [] (iV 0) [] 0 [] none, .no, .no, .w, .n 0, .i ((x / 1) % 256), .n2 0 (o + 0), .ds (dI .u8 (List.set bs (o + 0) ((x / 1) % 256)))] [1, 2, 3, 8, 9] [0, 1] (P := (_) ∧ ((-9223372036854775808) ≤ (0 : Int) ∧ (0 : Int) ≤ 9223372036854775807) ∧ ((0 : Int) = 0) ∧ ((0 : Nat) ≤ 64) ∧ (IntKind.u8.wrap (x / 1) = ((x / 1) % 256)) ∧ ((0 : Int) = 0) ∧ ((0 : Nat) < 3) ∧ (o + 0 * 1 = (o + 0)) ∧ ((o + 0) + 1 ≤ (dI .u8 bs).length) ∧ (updD (dI .u8 bs) (o + 0) [D.lit (.int .u8 ((x / 1) % 256))] = dI .u8 (List.set bs (o + 0) ((x / 1) % 256)))) (l' := [(1, .e (.c (.own 0 o 3 1 false))), (2, iV x), (3, rV 1 0), (8, iV 3), (9, iV 0)]) (g' := [(0, some (5, .ds (dI .u8 (List.set bs (o + 0) ((x / 1) % 256))))), (1, some (105, .ds [iD 3, D.lit (.bool false)]))]) (nx' := 2) zk ⟨(K_place_l 3 0 zo zo), ⟨by omega, by omega⟩, rfl, zo, (wrap_u8 _), rfl, zo, zo, zl04pe0, (dI_set _ _ _ _)⟩ ?_
 refine AW.rg [.w, .no] [1, 2, 3, 8, 9] [0, 1] (P := ((-9223372036854775808) ≤ (1 : Int) ∧ (1 : Int) ≤ 9223372036854775807)) (l' := [(1, .e (.c (.own 0 o 3 1 false))), (2, iV x), (3, rV 1 0), (8, iV 3), (9, iV 1)]) (g' := [(0, some (5, .ds (dI .u8 (List.set bs (o + 0) ((x / 1) % 256))))), (1, some (105, .ds [iD 3, D.lit (.bool false)]))]) (nx' := 2) zk ⟨by omega, by omega⟩ ?_
 refine AWr.s ?_
 refine AW.rgs [.b true] [1, 2, 3, 8, 9, 10] [0, 1] (P := (((1 : Int) < 3))) (l' := [(1, .e (.c (.own 0 o 3 1 false))), (2, iV x), (3, rV 1 0), (8, iV 3), (9, iV 1), (10, .e (.c (.d (D.lit (.bool true)))))]) (g' := [(0, some (5, .ds (dI .u8 (List.set bs (o + 0) ((x / 1) % 256))))), (1, some (105, .ds [iD 3, D.lit (.bool false)]))]) (nx' := 2) zk zo ?_
 refine AW.seq ?_
 refine AW.cond_t (.tmp (Look.of rfl)) ?_
 refine AW.skip ?_
 refine AW.seq ?_
 refine AW.block ?_
 refine AW.rgs [.no, .no] [1, 2, 3, 6, 8, 9] [0, 1] (P := True) (l' := [(1, .e (.c (.own 0 o 3 1 false))), (2, iV x), (3, rV 1 0), (6, iV 1), (8, iV 3), (9, iV 1)]) (g' := [(0, some (5, .ds (dI .u8 (List.set bs (o + 0) ((x / 1) % 256))))), (1, some (105, .ds [iD 3, D.lit (.bool false)]))]) (nx' := 2) zk trivial ?_
 refine AW.rg [.no, .no, .no, .call [] (iV 1) [] 0 [] none, .no, .no, .w, .n 8, .i ((x / 256) % 256), .n2 1 (o + 1), .ds (dI .u8 (List.set (List.set bs (o + 0) ((x / 1) % 256)) (o + 1) ((x / 256) % 256)))] [1, 2, 3, 8, 9] [0, 1] (P := (_) ∧ ((-9223372036854775808) ≤ (8 : Int) ∧ (8 : Int) ≤ 9223372036854775807) ∧ ((8 : Int) = 8) ∧ ((8 : Nat) ≤ 64) ∧ (IntKind.u8.wrap (x / 256) = ((x / 256) % 256)) ∧ ((1 : Int) = 1) ∧ ((1 : Nat) < 3) ∧ (o + 1 * 1 = (o + 1)) ∧ ((o + 1) + 1 ≤ (dI .u8 (List.set bs (o + 0) ((x / 1) % 256))).length) ∧ (updD (dI .u8 (List.set bs (o + 0) ((x / 1) % 256))) (o + 1) [D.lit (.int .u8 ((x / 256) % 256))] = dI .u8 (List.set (List.set bs (o + 0) ((x / 1) % 256)) (o + 1) ((x / 256) % 256)))) (l' := [(1, .e (.c (.own 0 o 3 1 false))), (2, iV x), (3, rV 1 0), (8, iV 3), (9, iV 1)]) (g' := [(0, some (5, .ds (dI .u8 (List.set (List.set bs (o + 0) ((x / 1) % 256)) (o + 1) ((x / 256) % 256))))), (1, some (105, .ds [iD 3, D.lit (.bool false)]))]) (nx' := 2) zk ⟨(K_place_l 3 1 zo zo), ⟨by omega, by omega⟩, rfl, zo, (wrap_u8 _), rfl, zo, zo, zl04pe0, (dI_set _ _ _ _)⟩ ?_
 refine AW.rg [.w, .no] [1, 2, 3, 8, 9] [0, 1] (P := ((-9223372036854775808) ≤ (2 : Int) ∧ (2 : Int) ≤ 9223372036854775807)) (l' := [(1, .e (.c (.own 0 o 3 1 false))), (2, iV x), (3, rV 1 0), (8, iV 3), (9, iV 2)]) (g' := [(0, some (5, .ds (dI .u8 (List.set (List.set bs (o + 0) ((x / 1) % 256)) (o + 1) ((x / 256) % 256))))), (1, some (105, .ds [iD 3, D.lit (.bool false)]))]) (nx' := 2) zk ⟨by omega, by omega⟩ ?_
 refine AWr.s ?_
 refine AW.rgs [.b true] [1, 2, 3, 8, 9, 10] [0, 1] (P := (((2 : Int) < 3))) (l' := [(1, .e (.c (.own 0 o 3 1 false))), (2, iV x), (3, rV 1 0), (8, iV 3), (9, iV 2), (10, .e (.c (.d (D.lit (.bool true)))))]) (g' := [(0, some (5, .ds (dI .u8 (List.set (List.set bs (o + 0) ((x / 1) % 256)) (o + 1) ((x / 256) % 256))))), (1, some (105, .ds [iD 3, D.lit (.bool false)]))]) (nx' := 2) zk zo ?_
 refine AW.seq ?_
 refine AW.cond_t (.tmp (Look.of rfl)) ?_
 refine AW.skip ?_
 refine AW.seq ?_
 refine AW.block ?_
 refine AW.rgs [.no, .no] [1, 2, 3, 6, 8, 9] [0, 1] (P := True) (l' := [(1, .e (.c (.own 0 o 3 1 false))), (2, iV x), (3, rV 1 0), (6, iV 2), (8, iV 3), (9, iV 2)]) (g' := [(0, some (5, .ds (dI .u8 (List.set (List.set bs (o + 0) ((x / 1) % 256)) (o + 1) ((x / 256) % 256))))), (1, some (105, .ds [iD 3, D.lit (.bool false)]))]) (nx' := 2) zk trivial ?_
 refine AW.rg [.no, .no, .no, .call [] (iV 2) [] 0 [] none, .no, .no, .w, .n 16, .i ((x / 65536) % 256), .n2 2 (o + 2), .ds (dI .u8 (List.set (List.set (List.set bs (o + 0) ((x / 1) % 256)) (o + 1) ((x / 256) % 256)) (o + 2) ((x / 65536) % 256)))] [1, 2, 3, 8, 9] [0, 1] (P := (_) ∧ ((-9223372036854775808) ≤ (16 : Int) ∧ (16 : Int) ≤ 9223372036854775807) ∧ ((16 : Int) = 16) ∧ ((16 : Nat) ≤ 64) ∧ (IntKind.u8.wrap (x / 65536) = ((x / 65536) % 256)) ∧ ((2 : Int) = 2) ∧ ((2 : Nat) < 3) ∧ (o + 2 * 1 = (o + 2)) ∧ ((o + 2) + 1 ≤ (dI .u8 (List.set (List.set bs (o + 0) ((x / 1) % 256)) (o + 1) ((x / 256) % 256))).length) ∧ (updD (dI .u8 (List.set (List.set bs (o + 0) ((x / 1) % 256)) (o + 1) ((x / 256) % 256))) (o + 2) [D.lit (.int .u8 ((x / 65536) % 256))] = dI .u8 (List.set (List.set (List.set bs (o + 0) ((x / 1) % 256)) (o + 1) ((x / 256) % 256)) (o + 2) ((x / 65536) % 256)))) (l' := [(1, .e (.c (.own 0 o 3 1 false))), (2, iV x), (3, rV 1 0), (8, iV 3), (9, iV 2)]) (g' := [(0, some (5, .ds (dI .u8 (List.set (List.set (List.set bs (o + 0) ((x / 1) % 256)) (o + 1) ((x / 256) % 256)) (o + 2) ((x / 65536) % 256))))), (1, some (105, .ds [iD 3, D.lit (.bool false)]))]) (nx' := 2) zk ⟨(K_place_l 3 2 zo zo), ⟨by omega, by omega⟩, rfl, zo, (wrap_u8 _), rfl, zo, zo, zl04pe0, (dI_set _ _ _ _)⟩ ?_
 refine AW.rg [.w, .no] [1, 2, 3, 8, 9] [0, 1] (P := ((-9223372036854775808) ≤ (3 : Int) ∧ (3 : Int) ≤ 9223372036854775807)) (l' := [(1, .e (.c (.own 0 o 3 1 false))), (2, iV x), (3, rV 1 0), (8, iV 3), (9, iV 3)]) (g' := [(0, some (5, .ds (dI .u8 (List.set (List.set (List.set bs (o + 0) ((x / 1) % 256)) (o + 1) ((x / 256) % 256)) (o + 2) ((x / 65536) % 256))))), (1, some (105, .ds [iD 3, D.lit (.bool false)]))]) (nx' := 2) zk ⟨by omega, by omega⟩ ?_
 refine AWr.s ?_
 refine AW.rgs [.b false] [1, 2, 3, 8, 9, 10] [0, 1] (P := (¬ ((3 : Int) < 3))) (l' := [(1, .e (.c (.own 0 o 3 1 false))), (2, iV x), (3, rV 1 0), (8, iV 3), (9, iV 3), (10, .e (.c (.d (D.lit (.bool false)))))]) (g' := [(0, some (5, .ds (dI .u8 (List.set (List.set (List.set bs (o + 0) ((x / 1) % 256)) (o + 1) ((x / 256) % 256)) (o + 2) ((x / 65536) % 256))))), (1, some (105, .ds [iD 3, D.lit (.bool false)]))]) (nx' := 2) zk zo ?_
 refine AW.seq ?_
 refine AW.cond_f (.tmp (Look.of rfl)) ?_
 refine AW.exit ?_
 exact EndP.of (.inl rfl) [] (P := (((dI .u8 (List.set (List.set (List.set bs (o + 0) ((x / 1) % 256)) (o + 1) ((x / 256) % 256)) (o + 2) ((x / 65536) % 256))) : List D) = (dI .u8 (List.set (List.set (List.set bs (o + 0) ((x / 1) % 256)) (o + 1) ((x / 256) % 256)) (o + 2) ((x / 65536) % 256))))) zk rfl
theorem K_put5 (bs : List Int) (o : Nat) (x : Int) (ho : o + 3 ≤ List.length bs) (hx : -2147483648 ≤ x ∧ x ≤ 2147483647) : Fun 59 [.agg [iC 3, .d (D.lit (.bool true))], .c (.own 0 o 3 1 false), iE x] (toG [(0, some (5, .ds (dI .u8 bs)))]) 1 (.tup []) (toG [(0, some (5, .ds (dI .u8 (List.set (List.set (List.set bs (o + 2) ((x / 1) % 256)) (o + 1) ((x / 256) % 256)) (o + 0) ((x / 65536) % 256)))))]) 1 := by
 refine Fun.mk (n := 23) Tryd.func59 rfl rfl (Nat.le_of_ble_eq_true rfl) ?_
 intro cx hcx
 refine AW.rgs [.no] [1, 2, 3] [0, 1] (P := True) (l' := [(1, .e (.c (.own 0 o 3 1 false))), (2, iV x), (3, rV 1 0)]) (g' := [(0, some (5, .ds (dI .u8 bs))), (1, some (105, .ds [iD 3, D.lit (.bool true)]))]) (nx' := 2) zk trivial ?_
 refine AW.rgs [.no, .no, .no] [1, 2, 3, 8, 9] [0, 1] (P := True) (l' := [(1, .e (.c (.own 0 o 3 1 false))), (2, iV x), (3, rV 1 0), (8, iV 3), (9, iV 0)]) (g' := [(0, some (5, .ds (dI .u8 bs))), (1, some (105, .ds [iD 3, D.lit (.bool true)]))]) (nx' := 2) zk trivial ?_
 refine AW.block ?_
 refine AW.rounds 4 ?_
 refine AWr.s ?_
 refine AW.rgs [.b true] [1, 2, 3, 8, 9, 10] [0, 1] (P := (((0 : Int) < 3))) (l' := [(1, .e (.c (.own 0 o 3 1 false))), (2, iV x), (3, rV 1 0), (8, iV 3), (9, iV 0), (10, .e (.c (.d (D.lit (.bool true)))))]) (g' := [(0, some (5, .ds (dI .u8 bs))), (1, some (105, .ds [iD 3, D.lit (.bool true)]))]) (nx' := 2) zk zo ?_
 refine AW.seq ?_
 refine AW.cond_t (.tmp (Look.of rfl)) ?_
 refine AW.skip ?_
 refine AW.seq ?_
 refine AW.block ?_
 refine AW.rgs [.no, .no] [1, 2, 3, 6, 8, 9] [0, 1] (P := True) (l' := [(1, .e (.c (.own 0 o 3 1 false))), (2, iV x), (3, rV 1 0), (6, iV 0), (8, iV 3), (9, iV 0)]) (g' := [(0, some (5, .ds (dI .u8 bs))), (1, some (105, .ds [iD 3, D.lit (.bool true)]))]) (nx' := 2) zk trivial ?_
 refine AW.rg [.no, .no, .no, .call [] (iV 2) [] 0 [] none, .no, .no, .w, .n 0, .i ((x / 1) % 256), .n2 2 (o + 2), .ds (dI .u8 (List.set bs (o + 2) ((x / 1) % 256)))] [1, 2, 3, 8, 9] [0, 1] (P := (_) ∧ ((-9223372036854775808) ≤ (0 : Int) ∧ (0 : Int) ≤ 9223372036854775807) ∧ ((0 : Int) = 0) ∧ ((0 : Nat) ≤ 64) ∧ (IntKind.u8.wrap (x / 1) = ((x / 1) % 256)) ∧ ((2 : Int) = 2) ∧ ((2 : Nat) < 3) ∧ (o + 2 * 1 = (o + 2)) ∧ ((o + 2) + 1 ≤ (dI .u8 bs).length) ∧ (updD (dI .u8 bs) (o + 2) [D.lit (.int .u8 ((x / 1) % 256))] = dI .u8 (List.set bs (o + 2) ((x / 1) % 256)))) (l' := [(1, .e (.c (.own 0 o 3 1 false))), (2, iV x), (3, rV 1 0), (8, iV 3), (9, iV 0)]) (g' := [(0, some (5, .ds (dI .u8 (List.set bs (o + 2) ((x / 1) % 256))))), (1, some (105, .ds [iD 3, D.lit (.bool true)]))]) (nx' := 2) zk ⟨(K_place_b 3 0 zo zo), ⟨by omega, by omega⟩, rfl, zo, (wrap_u8 _), rfl, zo, zo, zl04pe0, (dI_set _ _ _ _)⟩ ?_
 refine AW.rg [.w, .no] [1, 2, 3, 8, 9] [0, 1] (P := ((-9223372036854775808) ≤ (1 : Int) ∧ (1 : Int) ≤ 9223372036854775807)) (l' := [(1, .e (.c (.own 0 o 3 1 false))), (2, iV x), (3, rV 1 0), (8, iV 3), (9, iV 1)]) (g' := [(0, some (5, .ds (dI .u8 (List.set bs (o + 2) ((x / 1) % 256))))), (1, some (105, .ds [iD 3, D.lit (.bool true)]))]) (nx' := 2) zk ⟨by omega, by omega⟩ ?_
 refine AWr.s ?_
 refine AW.rgs [.b true] [1, 2, 3, 8, 9, 10] [0, 1] (P := (((1 : Int) < 3))) (l' := [(1, .e (.c (.own 0 o 3 1 false))), (2, iV x), (3, rV 1 0), (8, iV 3), (9, iV 1), (10, .e (.c (.d (D.lit (.bool true)))))]) (g' := [(0, some (5, .ds (dI .u8 (List.set bs (o + 2) ((x / 1) % 256))))), (1, some (105, .ds [iD 3, D.lit (.bool true)]))]) (nx' := 2) zk zo ?_
 refine AW.seq ?_
 refine AW.cond_t (.tmp (Look.of rfl)) ?_
 refine AW.skip ?_
 refine AW.seq ?_
 refine AW.block ?_
 refine AW.rgs [.no, .no] [1, 2, 3, 6, 8, 9] [0, 1] (P := True) (l' := [(1, .e (.c (.own 0 o 3 1 false))), (2, iV x), (3, rV 1 0), (6, iV 1), (8, iV 3), (9, iV 1)]) (g' := [(0, some (5, .ds (dI .u8 (List.set bs (o + 2) ((x / 1) % 256))))), (1, some (105, .ds [iD 3, D.lit (.bool true)]))]) (nx' := 2) zk trivial ?_
 refine AW.rg [.no, .no, .no, .call [] (iV 1) [] 0 [] none, .no, .no, .w, .n 8, .i ((x / 256) % 256), .n2 1 (o + 1), .ds (dI .u8 (List.set (List.set bs (o + 2) ((x / 1) % 256)) (o + 1) ((x / 256) % 256)))] [1, 2, 3, 8, 9] [0, 1] (P := (_) ∧ ((-9223372036854775808) ≤ (8 : Int) ∧ (8 : Int) ≤ 9223372036854775807) ∧ ((8 : Int) = 8) ∧ ((8 : Nat) ≤ 64) ∧ (IntKind.u8.wrap (x / 256) = ((x / 256) % 256)) ∧ ((1 : Int) = 1) ∧ ((1 : Nat) < 3) ∧ (o + 1 * 1 = (o + 1)) ∧ ((o + 1) + 1 ≤ (dI .u8 (List.set bs (o + 2) ((x / 1) % 256))).length) ∧ (updD (dI .u8 (List.set bs (o + 2) ((x / 1) % 256))) (o + 1) [D.lit (.int .u8 ((x / 256) % 256))] = dI .u8 (List.set (List.set bs (o + 2) ((x / 1) % 256)) (o + 1) ((x / 256) % 256)))) (l' := [(1, .e (.c (.own 0 o 3 1 false))), (2, iV x), (3, rV 1 0), (8, iV 3), (9, iV 1)]) (g' := [(0, some (5, .ds (dI .u8 (List.set (List.set bs (o + 2) ((x / 1) % 256)) (o + 1) ((x / 256) % 256))))), (1, some (105, .ds [iD 3, D.lit (.bool true)]))]) (nx' := 2) zk ⟨(K_place_b 3 1 zo zo), ⟨by omega, by omega⟩, rfl, zo, (wrap_u8 _), rfl, zo, zo, zl04pe0, (dI_set _ _ _ _)⟩ ?_
 refine AW.rg [.w, .no] [1, 2, 3, 8, 9] [0, 1] (P := ((-9223372036854775808) ≤ (2 : Int) ∧ (2 : Int) ≤ 9223372036854775807)) (l' := [(1, .e (.c (.own 0 o 3 1 false))), (2, iV x), (3, rV 1 0), (8, iV 3), (9, iV 2)]) (g' := [(0, some (5, .ds (dI .u8 (List.set (List.set bs (o + 2) ((x / 1) % 256)) (o + 1) ((x / 256) % 256))))), (1, some (105, .ds [iD 3, D.lit (.bool true)]))]) (nx' := 2) zk ⟨by omega, by omega⟩ ?_
 refine AWr.s ?_
 refine AW.rgs [.b true] [1, 2, 3, 8, 9, 10] [0, 1] (P := (((2 : Int) < 3))) (l' := [(1, .e (.c (.own 0 o 3 1 false))), (2, iV x), (3, rV 1 0), (8, iV 3), (9, iV 2), (10, .e (.c (.d (D.lit (.bool true)))))]) (g' := [(0, some (5, .ds (dI .u8 (List.set (List.set bs (o + 2) ((x / 1) % 256)) (o + 1) ((x / 256) % 256))))), (1, some (105, .ds [iD 3, D.lit (.bool true)]))]) (nx' := 2) zk zo ?_
 refine AW.seq ?_
 refine AW.cond_t (.tmp (Look.of rfl)) ?_
 refine AW.skip ?_
 refine AW.seq ?_
 refine AW.block ?_
 refine AW.rgs [.no, .no] [1, 2, 3, 6, 8, 9] [0, 1] (P := True) (l' := [(1, .e (.c (.own 0 o 3 1 false))), (2, iV x), (3, rV 1 0), (6, iV 2), (8, iV 3), (9, iV 2)]) (g' := [(0, some (5, .ds (dI .u8 (List.set (List.set bs (o + 2) ((x / 1) % 256)) (o + 1) ((x / 256) % 256))))), (1, some (105, .ds [iD 3, D.lit (.bool true)]))]) (nx' := 2) zk trivial ?_
 refine AW.rg [.no, .no, .no, .call [] (iV 0) [] 0 [] none, .no, .no, .w, .n 16, .i ((x / 65536) % 256), .n2 0 (o + 0), .ds (dI .u8 (List.set (List.set (List.set bs (o + 2) ((x / 1) % 256)) (o + 1) ((x / 256) % 256)) (o + 0) ((x / 65536) % 256)))] [1, 2, 3, 8, 9] [0, 1] (P := (_) ∧ ((-9223372036854775808) ≤ (16 : Int) ∧ (16 : Int) ≤ 9223372036854775807) ∧ ((16 : Int) = 16) ∧ ((16 : Nat) ≤ 64) ∧ (IntKind.u8.wrap (x / 65536) = ((x / 65536) % 256)) ∧ ((0 : Int) = 0) ∧ ((0 : Nat) < 3) ∧ (o + 0 * 1 = (o + 0)) ∧ ((o + 0) + 1 ≤ (dI .u8 (List.set (List.set bs (o + 2) ((x / 1) % 256)) (o + 1) ((x / 256) % 256))).length) ∧ (updD (dI .u8 (List.set (List.set bs (o + 2) ((x / 1) % 256)) (o + 1) ((x / 256) % 256))) (o + 0) [D.lit (.int .u8 ((x / 65536) % 256))] = dI .u8 (List.set (List.set (List.set bs (o + 2) ((x / 1) % 256)) (o + 1) ((x / 256) % 256)) (o + 0) ((x / 65536) % 256)))) (l' := [(1, .e (.c (.own 0 o 3 1 false))), (2, iV x), (3, rV 1 0), (8, iV 3), (9, iV 2)]) (g' := [(0, some (5, .ds (dI .u8 (List.set (List.set (List.set bs (o + 2) ((x / 1) % 256)) (o + 1) ((x / 256) % 256)) (o + 0) ((x / 65536) % 256))))), (1, some (105, .ds [iD 3, D.lit (.bool true)]))]) (nx' := 2) zk ⟨(K_place_b 3 2 zo zo), ⟨by omega, by omega⟩, rfl, zo, (wrap_u8 _), rfl, zo, zo, zl04pe0, (dI_set _ _ _ _)⟩ ?_
 refine AW.rg [.w, .no] [1, 2, 3, 8, 9] [0, 1] (P := ((-9223372036854775808) ≤ (3 : Int) ∧ (3 : Int) ≤ 9223372036854775807)) (l' := [(1, .e (.c (.own 0 o 3 1 false))), (2, iV x), (3, rV 1 0), (8, iV 3), (9, iV 3)]) (g' := [(0, some (5, .ds (dI .u8 (List.set (List.set (List.set bs (o + 2) ((x / 1) % 256)) (o + 1) ((x / 256) % 256)) (o + 0) ((x / 65536) % 256))))), (1, some (105, .ds [iD 3, D.lit (.bool true)]))]) (nx' := 2) zk ⟨by omega, by omega⟩ ?_
 refine AWr.s ?_
 refine AW.rgs [.b false] [1, 2, 3, 8, 9, 10] [0, 1] (P := (¬ ((3 : Int) < 3))) (l' := [(1, .e (.c (.own 0 o 3 1 false))), (2, iV x), (3, rV 1 0), (8, iV 3), (9, iV 3), (10, .e (.c (.d (D.lit (.bool false)))))]) (g' := [(0, some (5, .ds (dI .u8 (List.set (List.set (List.set bs (o + 2) ((x / 1) % 256)) (o + 1) ((x / 256) % 256)) (o + 0) ((x / 65536) % 256))))), (1, some (105, .ds [iD 3, D.lit (.bool true)]))]) (nx' := 2) zk zo ?_
 refine AW.seq ?_
 refine AW.cond_f (.tmp (Look.of rfl)) ?_
 refine AW.exit ?_
 exact EndP.of (.inl rfl) [] (P := (((dI .u8 (List.set (List.set (List.set bs (o + 2) ((x / 1) % 256)) (o + 1) ((x / 256) % 256)) (o + 0) ((x / 65536) % 256))) : List D) = (dI .u8 (List.set (List.set (List.set bs (o + 2) ((x / 1) % 256)) (o + 1) ((x / 256) % 256)) (o + 0) ((x / 65536) % 256))))) zk rfl
theorem K_put6 (bs : List Int) (o : Nat) (x : Int) (ho : o + 4 ≤ List.length bs) (hx : -2147483648 ≤ x ∧ x ≤ 2147483647) : Fun 59 [.agg [iC 4, .d (D.lit (.bool false))], .c (.own 0 o 4 1 false), iE x] (toG [(0, some (5, .ds (dI .u8 bs)))]) 1 (.tup []) (toG [(0, some (5, .ds (dI .u8 (List.set (List.set (List.set (List.set bs (o + 0) ((x / 1) % 256)) (o + 1) ((x / 256) % 256)) (o + 2) ((x / 65536) % 256)) (o + 3) ((x / 16777216) % 256)))))]) 1 := by
 refine Fun.mk (n := 23) Tryd.func59 rfl rfl (Nat.le_of_ble_eq_true rfl) ?_
 intro cx hcx
 refine AW.rgs [.no] [1, 2, 3] [0, 1] (P := True) (l' := [(1, .e (.c (.own 0 o 4 1 false))), (2, iV x), (3, rV 1 0)]) (g' := [(0, some (5, .ds (dI .u8 bs))), (1, some (105, .ds [iD 4, D.lit (.bool false)]))]) (nx' := 2) zk trivial ?_
 refine AW.rgs [.no, .no, .no] [1, 2, 3, 8, 9] [0, 1] (P := True) (l' := [(1, .e (.c (.own 0 o 4 1 false))), (2, iV x), (3, rV 1 0), (8, iV 4), (9, iV 0)]) (g' := [(0, some (5, .ds (dI .u8 bs))), (1, some (105, .ds [iD 4, D.lit (.bool false)]))]) (nx' := 2) zk trivial ?_
 refine AW.block ?_
 refine AW.rounds 5 ?_
 refine AWr.s ?_
 refine AW.rgs [.b true] [1, 2, 3, 8, 9, 10] [0, 1] (P := (((0 : Int) < 4))) (l' := [(1, .e (.c (.own 0 o 4 1 false))), (2, iV x), (3, rV 1 0), (8, iV 4), (9, iV 0), (10, .e (.c (.d (D.lit (.bool true)))))]) (g' := [(0, some (5, .ds (dI .u8 bs))), (1, some (105, .ds [iD 4, D.lit (.bool false)]))]) (nx' := 2) zk zo ?_
 refine AW.seq ?_
 refine AW.cond_t (.tmp (Look.of rfl)) ?_
 refine AW.skip ?_
 refine AW.seq ?_
 refine AW.block ?_
 refine AW.rgs [.no, .no] [1, 2, 3, 6, 8, 9] [0, 1] (P := True) (l' := [(1, .e (.c (.own 0 o 4 1 false))), (2, iV x), (3, rV 1 0), (6, iV 0), (8, iV 4), (9, iV 0)]) (g' := [(0, some (5, .ds (dI .u8 bs))), (1, some (105, .ds [iD 4, D.lit (.bool false)]))]) (nx' := 2) zk trivial ?_
 refine AW.rg [.no, .no, .no, .call [] (iV 0) [] 0 [] none, .no, .no, .w, .n 0, .i ((x / 1) % 256), .n2 0 (o + 0), .ds (dI .u8 (List.set bs (o + 0) ((x / 1) % 256)))] [1, 2, 3, 8, 9] [0, 1] (P := (_) ∧ ((-9223372036854775808) ≤ (0 : Int) ∧ (0 : Int) ≤ 9223372036854775807) ∧ ((0 : Int) = 0) ∧ ((0 : Nat) ≤ 64) ∧ (IntKind.u8.wrap (x / 1) = ((x / 1) % 256)) ∧ ((0 : Int) = 0) ∧ ((0 : Nat) < 4) ∧ (o + 0 * 1 = (o + 0)) ∧ ((o + 0) + 1 ≤ (dI .u8 bs).length) ∧ (updD (dI .u8 bs) (o + 0) [D.lit (.int .u8 ((x / 1) % 256))] = dI .u8 (List.set bs (o + 0) ((x / 1) % 256)))) (l' := [(1, .e (.c (.own 0 o 4 1 false))), (2, iV x), (3, rV 1 0), (8, iV 4), (9, iV 0)]) (g' := [(0, some (5, .ds (dI .u8 (List.set bs (o + 0) ((x / 1) % 256))))), (1, some (105, .ds [iD 4, D.lit (.bool false)]))]) (nx' := 2) zk ⟨(K_place_l 4 0 zo zo), ⟨by omega, by omega⟩, rfl, zo, (wrap_u8 _), rfl, zo, zo, zl04pe0, (dI_set _ _ _ _)⟩ ?_
 refine AW.rg [.w, .no] [1, 2, 3, 8, 9] [0, 1] (P := ((-9223372036854775808) ≤ (1 : Int) ∧ (1 : Int) ≤ 9223372036854775807)) (l' := [(1, .e (.c (.own 0 o 4 1 false))), (2, iV x), (3, rV 1 0), (8, iV 4), (9, iV 1)]) (g' := [(0, some (5, .ds (dI .u8 (List.set bs (o + 0) ((x / 1) % 256))))), (1, some (105, .ds [iD 4, D.lit (.bool false)]))]) (nx' := 2) zk ⟨by omega, by omega⟩ ?_
 refine AWr.s ?_
 refine AW.rgs [.b true] [1, 2, 3, 8, 9, 10] [0, 1] (P := (((1 : Int) < 4))) (l' := [(1, .e (.c (.own 0 o 4 1 false))), (2, iV x), (3, rV 1 0), (8, iV 4), (9, iV 1), (10, .e (.c (.d (D.lit (.bool true)))))]) (g' := [(0, some (5, .ds (dI .u8 (List.set bs (o + 0) ((x / 1) % 256))))), (1, some (105, .ds [iD 4, D.lit (.bool false)]))]) (nx' := 2) zk zo ?_
 refine AW.seq ?_
 refine AW.cond_t (.tmp (Look.of rfl)) ?_
 refine AW.skip ?_
 refine AW.seq ?_
 refine AW.block ?_
 refine AW.rgs [.no, .no] [1, 2, 3, 6, 8, 9] [0, 1] (P := True) (l' := [(1, .e (.c (.own 0 o 4 1 false))), (2, iV x), (3, rV 1 0), (6, iV 1), (8, iV 4), (9, iV 1)]) (g' := [(0, some (5, .ds (dI .u8 (List.set bs (o + 0) ((x / 1) % 256))))), (1, some (105, .ds [iD 4, D.lit (.bool false)]))]) (nx' := 2) zk trivial ?_
 refine AW.rg [.no, .no, .no, .call [] (iV 1) [] 0 [] none, .no, .no, .w, .n 8, .i ((x / 256) % 256), .n2 1 (o + 1), .ds (dI .u8 (List.set (List.set bs (o + 0) ((x / 1) % 256)) (o + 1) ((x / 256) % 256)))] [1, 2, 3, 8, 9] [0, 1] (P := (_) ∧ ((-9223372036854775808) ≤ (8 : Int) ∧ (8 : Int) ≤ 9223372036854775807) ∧ ((8 : Int) = 8) ∧ ((8 : Nat) ≤ 64) ∧ (IntKind.u8.wrap (x / 256) = ((x / 256) % 256)) ∧ ((1 : Int) = 1) ∧ ((1 : Nat) < 4) ∧ (o + 1 * 1 = (o + 1)) ∧ ((o + 1) + 1 ≤ (dI .u8 (List.set bs (o + 0) ((x / 1) % 256))).length) ∧ (updD (dI .u8 (List.set bs (o + 0) ((x / 1) % 256))) (o + 1) [D.lit (.int .u8 ((x / 256) % 256))] = dI .u8 (List.set (List.set bs (o + 0) ((x / 1) % 256)) (o + 1) ((x / 256) % 256)))) (l' := [(1, .e (.c (.own 0 o 4 1 false))), (2, iV x), (3, rV 1 0), (8, iV 4), (9, iV 1)]) (g' := [(0, some (5, .ds (dI .u8 (List.set (List.set bs (o + 0) ((x / 1) % 256)) (o + 1) ((x / 256) % 256))))), (1, some (105, .ds [iD 4, D.lit (.bool false)]))]) (nx' := 2) zk ⟨(K_place_l 4 1 zo zo), ⟨by omega, by omega⟩, rfl, zo, (wrap_u8 _), rfl, zo, zo, zl04pe0, (dI_set _ _ _ _)⟩ ?_
 refine AW.rg [.w, .no] [1, 2, 3, 8, 9] [0, 1] (P := ((-9223372036854775808) ≤ (2 : Int) ∧ (2 : Int) ≤ 9223372036854775807)) (l' := [(1, .e (.c (.own 0 o 4 1 false))), (2, iV x), (3, rV 1 0), (8, iV 4), (9, iV 2)]) (g' := [(0, some (5, .ds (dI .u8 (List.set (List.set bs (o + 0) ((x / 1) % 256)) (o + 1) ((x / 256) % 256))))), (1, some (105, .ds [iD 4, D.lit (.bool false)]))]) (nx' := 2) zk ⟨by omega, by omega⟩ ?_
 refine AWr.s ?_
 refine AW.rgs [.b true] [1, 2, 3, 8, 9, 10] [0, 1] (P := (((2 : Int) < 4))) (l' := [(1, .e (.c (.own 0 o 4 1 false))), (2, iV x), (3, rV 1 0), (8, iV 4), (9, iV 2), (10, .e (.c (.d (D.lit (.bool true)))))]) (g' := [(0, some (5, .ds (dI .u8 (List.set (List.set bs (o + 0) ((x / 1) % 256)) (o + 1) ((x / 256) % 256))))), (1, some (105, .ds [iD 4, D.lit (.bool false)]))]) (nx' := 2) zk zo ?_
 refine AW.seq ?_
 refine AW.cond_t (.tmp (Look.of rfl)) ?_
 refine AW.skip ?_
 refine AW.seq ?_
 refine AW.block ?_
 refine AW.rgs [.no, .no] [1, 2, 3, 6, 8, 9] [0, 1] (P := True) (l' := [(1, .e (.c (.own 0 o 4 1 false))), (2, iV x), (3, rV 1 0), (6, iV 2), (8, iV 4), (9, iV 2)]) (g' := [(0, some (5, .ds (dI .u8 (List.set (List.set bs (o + 0) ((x / 1) % 256)) (o + 1) ((x / 256) % 256))))), (1, some (105, .ds [iD 4, D.lit (.bool false)]))]) (nx' := 2) zk trivial ?_
 refine AW.rg [.no, .no, .no, .call [] (iV 2) [] 0 [] none, .no, .no, .w, .n 16, .i ((x / 65536) % 256), .n2 2 (o + 2), .ds (dI .u8 (List.set (List.set (List.set bs (o + 0) ((x / 1) % 256)) (o + 1) ((x / 256) % 256)) (o + 2) ((x / 65536) % 256)))] [1, 2, 3, 8, 9] [0, 1] (P := (_) ∧ ((-9223372036854775808) ≤ (16 : Int) ∧ (16 : Int) ≤ 9223372036854775807) ∧ ((16 : Int) = 16) ∧ ((16 : Nat) ≤ 64) ∧ (IntKind.u8.wrap (x / 65536) = ((x / 65536) % 256)) ∧ ((2 : Int) = 2) ∧ ((2 : Nat) < 4) ∧ (o + 2 * 1 = (o + 2)) ∧ ((o + 2) + 1 ≤ (dI .u8 (List.set (List.set bs (o + 0) ((x / 1) % 256)) (o + 1) ((x / 256) % 256))).length) ∧ (updD (dI .u8 (List.set (List.set bs (o + 0) ((x / 1) % 256)) (o + 1) ((x / 256) % 256))) (o + 2) [D.lit (.int .u8 ((x / 65536) % 256))] = dI .u8 (List.set (List.set (List.set bs (o + 0) ((x / 1) % 256)) (o + 1) ((x / 256) % 256)) (o + 2) ((x / 65536) % 256)))) (l' := [(1, .e (.c (.own 0 o 4 1 false))), (2, iV x), (3, rV 1 0), (8, iV 4), (9, iV 2)]) (g' := [(0, some (5, .ds (dI .u8 (List.set (List.set (List.set bs (o + 0) ((x / 1) % 256)) (o + 1) ((x / 256) % 256)) (o + 2) ((x / 65536) % 256))))), (1, some (105, .ds [iD 4, D.lit (.bool false)]))]) (nx' := 2) zk ⟨(K_place_l 4 2 zo zo), ⟨by omega, by omega⟩, rfl, zo, (wrap_u8 _), rfl, zo, zo, zl04pe0, (dI_set _ _ _ _)⟩ ?_
 refine AW.rg [.w, .no] [1, 2, 3, 8, 9] [0, 1] (P := ((-9223372036854775808) ≤ (3 : Int) ∧ (3 : Int) ≤ 9223372036854775807)) (l' := [(1, .e (.c (.own 0 o 4 1 false))), (2, iV x), (3, rV 1 0), (8, iV 4), (9, iV 3)]) (g' := [(0, some (5, .ds (dI .u8 (List.set (List.set (List.set bs (o + 0) ((x / 1) % 256)) (o + 1) ((x / 256) % 256)) (o + 2) ((x / 65536) % 256))))), (1, some (105, .ds [iD 4, D.lit (.bool false)]))]) (nx' := 2) zk ⟨by omega, by omega⟩ ?_
 refine AWr.s ?_
 refine AW.rgs [.b true] [1, 2, 3, 8, 9, 10] [0, 1] (P := (((3 : Int) < 4))) (l' := [(1, .e (.c (.own 0 o 4 1 false))), (2, iV x), (3, rV 1 0), (8, iV 4), (9, iV 3), (10, .e (.c (.d (D.lit (.bool true)))))]) (g' := [(0, some (5, .ds (dI .u8 (List.set (List.set (List.set bs (o + 0) ((x / 1) % 256)) (o + 1) ((x / 256) % 256)) (o + 2) ((x / 65536) % 256))))), (1, some (105, .ds [iD 4, D.lit (.bool false)]))]) (nx' := 2) zk zo ?_
 refine AW.seq ?_
 refine AW.cond_t (.tmp (Look.of rfl)) ?_
 refine AW.skip ?_
 refine AW.seq ?_
 refine AW.block ?_
 refine AW.rgs [.no, .no] [1, 2, 3, 6, 8, 9] [0, 1] (P := True) (l' := [(1, .e (.c (.own 0 o 4 1 false))), (2, iV x), (3, rV 1 0), (6, iV 3), (8, iV 4), (9, iV 3)]) (g' := [(0, some (5, .ds (dI .u8 (List.set (List.set (List.set bs (o + 0) ((x / 1) % 256)) (o + 1) ((x / 256) % 256)) (o + 2) ((x / 65536) % 256))))), (1, some (105, .ds [iD 4, D.lit (.bool false)]))]) (nx' := 2) zk trivial ?_
 refine AW.rg [.no, .no, .no, .call [] (iV 3) [] 0 [] none, .no, .no, .w, .n 24, .i ((x / 16777216) % 256), .n2 3 (o + 3), .ds (dI .u8 (List.set (List.set (List.set (List.set bs (o + 0) ((x / 1) % 256)) (o + 1) ((x / 256) % 256)) (o + 2) ((x / 65536) % 256)) (o + 3) ((x / 16777216) % 256)))] [1, 2, 3, 8, 9] [0, 1] (P := (_) ∧ ((-9223372036854775808) ≤ (24 : Int) ∧ (24 : Int) ≤ 9223372036854775807) ∧ ((24 : Int) = 24) ∧ ((24 : Nat) ≤ 64) ∧ (IntKind.u8.wrap (x / 16777216) = ((x / 16777216) % 256)) ∧ ((3 : Int) = 3) ∧ ((3 : Nat) < 4) ∧ (o + 3 * 1 = (o + 3)) ∧ ((o + 3) + 1 ≤ (dI .u8 (List.set (List.set (List.set bs (o + 0) ((x / 1) % 256)) (o + 1) ((x / 256) % 256)) (o + 2) ((x / 65536) % 256))).length) ∧ (updD (dI .u8 (List.set (List.set (List.set bs (o + 0) ((x / 1) % 256)) (o + 1) ((x / 256) % 256)) (o + 2) ((x / 65536) % 256))) (o + 3) [D.lit (.int .u8 ((x / 16777216) % 256))] = dI .u8 (List.set (List.set (List.set (List.set bs (o + 0) ((x / 1) % 256)) (o + 1) ((x / 256) % 256)) (o + 2) ((x / 65536) % 256)) (o + 3) ((x / 16777216) % 256)))) (l' := [(1, .e (.c (.own 0 o 4 1 false))), (2, iV x), (3, rV 1 0), (8, iV 4), (9, iV 3)]) (g' := [(0, some (5, .ds (dI .u8 (List.set (List.set (List.set (List.set bs (o + 0) ((x / 1) % 256)) (o + 1) ((x / 256) % 256)) (o + 2) ((x / 65536) % 256)) (o + 3) ((x / 16777216) % 256))))), (1, some (105, .ds [iD 4, D.lit (.bool false)]))]) (nx' := 2) zk ⟨(K_place_l 4 3 zo zo), ⟨by omega, by omega⟩, rfl, zo, (wrap_u8 _), rfl, zo, zo, zl04pe0, (dI_set _ _ _ _)⟩ ?_
 refine AW.rg [.w, .no] [1, 2, 3, 8, 9] [0, 1] (P := ((-9223372036854775808) ≤ (4 : Int) ∧ (4 : Int) ≤ 9223372036854775807)) (l' := [(1, .e (.c (.own 0 o 4 1 false))), (2, iV x), (3, rV 1 0), (8, iV 4), (9, iV 4)]) (g' := [(0, some (5, .ds (dI .u8 (List.set (List.set (List.set (List.set bs (o + 0) ((x / 1) % 256)) (o + 1) ((x / 256) % 256)) (o + 2) ((x / 65536) % 256)) (o + 3) ((x / 16777216) % 256))))), (1, some (105, .ds [iD 4, D.lit (.bool false)]))]) (nx' := 2) zk ⟨by omega, by omega⟩ ?_
 refine AWr.s ?_
 refine AW.rgs [.b false] [1, 2, 3, 8, 9, 10] [0, 1] (P := (¬ ((4 : Int) < 4))) (l' := [(1, .e (.c (.own 0 o 4 1 false))), (2, iV x), (3, rV 1 0), (8, iV 4), (9, iV 4), (10, .e (.c (.d (D.lit (.bool false)))))]) (g' := [(0, some (5, .ds (dI .u8 (List.set (List.set (List.set (List.set bs (o + 0) ((x / 1) % 256)) (o + 1) ((x / 256) % 256)) (o + 2) ((x / 65536) % 256)) (o + 3) ((x / 16777216) % 256))))), (1, some (105, .ds [iD 4, D.lit (.bool false)]))]) (nx' := 2) zk zo ?_
 refine AW.seq ?_
 refine AW.cond_f (.tmp (Look.of rfl)) ?_
 refine AW.exit ?_
 exact EndP.of (.inl rfl) [] (P := (((dI .u8 (List.set (List.set (List.set (List.set bs (o + 0) ((x / 1) % 256)) (o + 1) ((x / 256) % 256)) (o + 2) ((x / 65536) % 256)) (o + 3) ((x / 16777216) % 256))) : List D) = (dI .u8 (List.set (List.set (List.set (List.set bs (o + 0) ((x / 1) % 256)) (o + 1) ((x / 256) % 256)) (o + 2) ((x / 65536) % 256)) (o + 3) ((x / 16777216) % 256))))) zk rfl
theorem K_put7 (bs : List Int) (o : Nat) (x : Int) (ho : o + 4 ≤ List.length bs) (hx : -2147483648 ≤ x ∧ x ≤ 2147483647) : Fun 59 [.agg [iC 4, .d (D.lit (.bool true))], .c (.own 0 o 4 1 false), iE x] (toG [(0, some (5, .ds (dI .u8 bs)))]) 1 (.tup []) (toG [(0, some (5, .ds (dI .u8 (List.set (List.set (List.set (List.set bs (o + 3) ((x / 1) % 256)) (o + 2) ((x / 256) % 256)) (o + 1) ((x / 65536) % 256)) (o + 0) ((x / 16777216) % 256)))))]) 1 := by
 refine Fun.mk (n := 23) Tryd.func59 rfl rfl (Nat.le_of_ble_eq_true rfl) ?_
 intro cx hcx
 refine AW.rgs [.no] [1, 2, 3] [0, 1] (P := True) (l' := [(1, .e (.c (.own 0 o 4 1 false))), (2, iV x), (3, rV 1 0)]) (g' := [(0, some (5, .ds (dI .u8 bs))), (1, some (105, .ds [iD 4, D.lit (.bool true)]))]) (nx' := 2) zk trivial ?_
 refine AW.rgs [.no, .no, .no] [1, 2, 3, 8, 9] [0, 1] (P := True) (l' := [(1, .e (.c (.own 0 o 4 1 false))), (2, iV x), (3, rV 1 0), (8, iV 4), (9, iV 0)]) (g' := [(0, some (5, .ds (dI .u8 bs))), (1, some (105, .ds [iD 4, D.lit (.bool true)]))]) (nx' := 2) zk trivial ?_
 refine AW.block ?_
 refine AW.rounds 5 ?_
 refine AWr.s ?_
 refine AW.rgs [.b true] [1, 2, 3, 8, 9, 10] [0, 1] (P := (((0 : Int) < 4))) (l' := [(1, .e (.c (.own 0 o 4 1 false))), (2, iV x), (3, rV 1 0), (8, iV 4), (9, iV 0), (10, .e (.c (.d (D.lit (.bool true)))))]) (g' := [(0, some (5, .ds (dI .u8 bs))), (1, some (105, .ds [iD 4, D.lit (.bool true)]))]) (nx' := 2) zk zo ?_
 refine AW.seq ?_
 refine AW.cond_t (.tmp (Look.of rfl)) ?_
 refine AW.skip ?_
 refine AW.seq ?_
 refine AW.block ?_
 refine AW.rgs [.no, .no] [1, 2, 3, 6, 8, 9] [0, 1] (P := True) (l' := [(1, .e (.c (.own 0 o 4 1 false))), (2, iV x), (3, rV 1 0), (6, iV 0), (8, iV 4), (9, iV 0)]) (g' := [(0, some (5, .ds (dI .u8 bs))), (1, some (105, .ds [iD 4, D.lit (.bool true)]))]) (nx' := 2) zk trivial ?_
 refine AW.rg [.no, .no, .no, .call [] (iV 3) [] 0 [] none, .no, .no, .w, .n 0, .i ((x / 1) % 256), .n2 3 (o + 3), .ds (dI .u8 (List.set bs (o + 3) ((x / 1) % 256)))] [1, 2, 3, 8, 9] [0, 1] (P := (_) ∧ ((-9223372036854775808) ≤ (0 : Int) ∧ (0 : Int) ≤ 9223372036854775807) ∧ ((0 : Int) = 0) ∧ ((0 : Nat) ≤ 64) ∧ (IntKind.u8.wrap (x / 1) = ((x / 1) % 256)) ∧ ((3 : Int) = 3) ∧ ((3 : Nat) < 4) ∧ (o + 3 * 1 = (o + 3)) ∧ ((o + 3) + 1 ≤ (dI .u8 bs).length) ∧ (updD (dI .u8 bs) (o + 3) [D.lit (.int .u8 ((x / 1) % 256))] = dI .u8 (List.set bs (o + 3) ((x / 1) % 256)))) (l' := [(1, .e (.c (.own 0 o 4 1 false))), (2, iV x), (3, rV 1 0), (8, iV 4), (9, iV 0)]) (g' := [(0, some (5, .ds (dI .u8 (List.set bs (o + 3) ((x / 1) % 256))))), (1, some (105, .ds [iD 4, D.lit (.bool true)]))]) (nx' := 2) zk ⟨(K_place_b 4 0 zo zo), ⟨by omega, by omega⟩, rfl, zo, (wrap_u8 _), rfl, zo, zo, zl04pe0, (dI_set _ _ _ _)⟩ ?_
 refine AW.rg [.w, .no] [1, 2, 3, 8, 9] [0, 1] (P := ((-9223372036854775808) ≤ (1 : Int) ∧ (1 : Int) ≤ 9223372036854775807)) (l' := [(1, .e (.c (.own 0 o 4 1 false))), (2, iV x), (3, rV 1 0), (8, iV 4), (9, iV 1)]) (g' := [(0, some (5, .ds (dI .u8 (List.set bs (o + 3) ((x / 1) % 256))))), (1, some (105, .ds [iD 4, D.lit (.bool true)]))]) (nx' := 2) zk ⟨by omega, by omega⟩ ?_
 refine AWr.s ?_
 refine AW.rgs [.b true] [1, 2, 3, 8, 9, 10] [0, 1] (P := (((1 : Int) < 4))) (l' := [(1, .e (.c (.own 0 o 4 1 false))), (2, iV x), (3, rV 1 0), (8, iV 4), (9, iV 1), (10, .e (.c (.d (D.lit (.bool true)))))]) (g' := [(0, some (5, .ds (dI .u8 (List.set bs (o + 3) ((x / 1) % 256))))), (1, some (105, .ds [iD 4, D.lit (.bool true)]))]) (nx' := 2) zk zo ?_
 refine AW.seq ?_
 refine AW.cond_t (.tmp (Look.of rfl)) ?_
 refine AW.skip ?_
 refine AW.seq ?_
 refine AW.block ?_
 refine AW.rgs [.no, .no] [1, 2, 3, 6, 8, 9] [0, 1] (P := True) (l' := [(1, .e (.c (.own 0 o 4 1 false))), (2, iV x), (3, rV 1 0), (6, iV 1), (8, iV 4), (9, iV 1)]) (g' := [(0, some (5, .ds (dI .u8 (List.set bs (o + 3) ((x / 1) % 256))))), (1, some (105, .ds [iD 4, D.lit (.bool true)]))]) (nx' := 2) zk trivial ?_
 refine AW.rg [.no, .no, .no, .call [] (iV 2) [] 0 [] none, .no, .no, .w, .n 8, .i ((x / 256) % 256), .n2 2 (o + 2), .ds (dI .u8 (List.set (List.set bs (o + 3) ((x / 1) % 256)) (o + 2) ((x / 256) % 256)))] [1, 2, 3, 8, 9] [0, 1] (P := (_) ∧ ((-9223372036854775808) ≤ (8 : Int) ∧ (8 : Int) ≤ 9223372036854775807) ∧ ((8 : Int) = 8) ∧ ((8 : Nat) ≤ 64) ∧ (IntKind.u8.wrap (x / 256) = ((x / 256) % 256)) ∧ ((2 : Int) = 2) ∧ ((2 : Nat) < 4) ∧ (o + 2 * 1 = (o + 2)) ∧ ((o + 2) + 1 ≤ (dI .u8 (List.set bs (o + 3) ((x / 1) % 256))).length) ∧ (updD (dI .u8 (List.set bs (o + 3) ((x / 1) % 256))) (o + 2) [D.lit (.int .u8 ((x / 256) % 256))] = dI .u8 (List.set (List.set bs (o + 3) ((x / 1) % 256)) (o + 2) ((x / 256) % 256)))) (l' := [(1, .e (.c (.own 0 o 4 1 false))), (2, iV x), (3, rV 1 0), (8, iV 4), (9, iV 1)]) (g' := [(0, some (5, .ds (dI .u8 (List.set (List.set bs (o + 3) ((x / 1) % 256)) (o + 2) ((x / 256) % 256))))), (1, some (105, .ds [iD 4, D.lit (.bool true)]))]) (nx' := 2) zk ⟨(K_place_b 4 1 zo zo), ⟨by omega, by omega⟩, rfl, zo, (wrap_u8 _), rfl, zo, zo, zl04pe0, (dI_set _ _ _ _)⟩ ?_
 refine AW.rg [.w, .no] [1, 2, 3, 8, 9] [0, 1] (P := ((-9223372036854775808) ≤ (2 : Int) ∧ (2 : Int) ≤ 9223372036854775807)) (l' := [(1, .e (.c (.own 0 o 4 1 false))), (2, iV x), (3, rV 1 0), (8, iV 4), (9, iV 2)]) (g' := [(0, some (5, .ds (dI .u8 (List.set (List.set bs (o + 3) ((x / 1) % 256)) (o + 2) ((x / 256) % 256))))), (1, some (105, .ds [iD 4, D.lit (.bool true)]))]) (nx' := 2) zk ⟨by omega, by omega⟩ ?_
 refine AWr.s ?_
 refine AW.rgs [.b true] [1, 2, 3, 8, 9, 10] [0, 1] (P := (((2 : Int) < 4))) (l' := [(1, .e (.c (.own 0 o 4 1 false))), (2, iV x), (3, rV 1 0), (8, iV 4), (9, iV 2), (10, .e (.c (.d (D.lit (.bool true)))))]) (g' := [(0, some (5, .ds (dI .u8 (List.set (List.set bs (o + 3) ((x / 1) % 256)) (o + 2) ((x / 256) % 256))))), (1, some (105, .ds [iD 4, D.lit (.bool true)]))]) (nx' := 2) zk zo ?_
 refine AW.seq ?_
 refine AW.cond_t (.tmp (Look.of rfl)) ?_
 refine AW.skip ?_
 refine AW.seq ?_
 refine AW.block ?_
 refine AW.rgs [.no, .no] [1, 2, 3, 6, 8, 9] [0, 1] (P := True) (l' := [(1, .e (.c (.own 0 o 4 1 false))), (2, iV x), (3, rV 1 0), (6, iV 2), (8, iV 4), (9, iV 2)]) (g' := [(0, some (5, .ds (dI .u8 (List.set (List.set bs (o + 3) ((x / 1) % 256)) (o + 2) ((x / 256) % 256))))), (1, some (105, .ds [iD 4, D.lit (.bool true)]))]) (nx' := 2) zk trivial ?_
 refine AW.rg [.no, .no, .no, .call [] (iV 1) [] 0 [] none, .no, .no, .w, .n 16, .i ((x / 65536) % 256), .n2 1 (o + 1), .ds (dI .u8 (List.set (List.set (List.set bs (o + 3) ((x / 1) % 256)) (o + 2) ((x / 256) % 256)) (o + 1) ((x / 65536) % 256)))] [1, 2, 3, 8, 9] [0, 1] (P := (_) ∧ ((-9223372036854775808) ≤ (16 : Int) ∧ (16 : Int) ≤ 9223372036854775807) ∧ ((16 : Int) = 16) ∧ ((16 : Nat) ≤ 64) ∧ (IntKind.u8.wrap (x / 65536) = ((x / 65536) % 256)) ∧ ((1 : Int) = 1) ∧ ((1 : Nat) < 4) ∧ (o + 1 * 1 = (o + 1)) ∧ ((o + 1) + 1 ≤ (dI .u8 (List.set (List.set bs (o + 3) ((x / 1) % 256)) (o + 2) ((x / 256) % 256))).length) ∧ (updD (dI .u8 (List.set (List.set bs (o + 3) ((x / 1) % 256)) (o + 2) ((x / 256) % 256))) (o + 1) [D.lit (.int .u8 ((x / 65536) % 256))] = dI .u8 (List.set (List.set (List.set bs (o + 3) ((x / 1) % 256)) (o + 2) ((x / 256) % 256)) (o + 1) ((x / 65536) % 256)))) (l' := [(1, .e (.c (.own 0 o 4 1 false))), (2, iV x), (3, rV 1 0), (8, iV 4), (9, iV 2)]) (g' := [(0, some (5, .ds (dI .u8 (List.set (List.set (List.set bs (o + 3) ((x / 1) % 256)) (o + 2) ((x / 256) % 256)) (o + 1) ((x / 65536) % 256))))), (1, some (105, .ds [iD 4, D.lit (.bool true)]))]) (nx' := 2) zk ⟨(K_place_b 4 2 zo zo), ⟨by omega, by omega⟩, rfl, zo, (wrap_u8 _), rfl, zo, zo, zl04pe0, (dI_set _ _ _ _)⟩ ?_
 refine AW.rg [.w, .no] [1, 2, 3, 8, 9] [0, 1] (P := ((-9223372036854775808) ≤ (3 : Int) ∧ (3 : Int) ≤ 9223372036854775807)) (l' := [(1, .e (.c (.own 0 o 4 1 false))), (2, iV x), (3, rV 1 0), (8, iV 4), (9, iV 3)]) (g' := [(0, some (5, .ds (dI .u8 (List.set (List.set (List.set bs (o + 3) ((x / 1) % 256)) (o + 2) ((x / 256) % 256)) (o + 1) ((x / 65536) % 256))))), (1, some (105, .ds [iD 4, D.lit (.bool true)]))]) (nx' := 2) zk ⟨by omega, by omega⟩ ?_
 refine AWr.s ?_
 refine AW.rgs [.b true] [1, 2, 3, 8, 9, 10] [0, 1] (P := (((3 : Int) < 4))) (l' := [(1, .e (.c (.own 0 o 4 1 false))), (2, iV x), (3, rV 1 0), (8, iV 4), (9, iV 3), (10, .e (.c (.d (D.lit (.bool true)))))]) (g' := [(0, some (5, .ds (dI .u8 (List.set (List.set (List.set bs (o + 3) ((x / 1) % 256)) (o + 2) ((x / 256) % 256)) (o + 1) ((x / 65536) % 256))))), (1, some (105, .ds [iD 4, D.lit (.bool true)]))]) (nx' := 2) zk zo ?_
 refine AW.seq ?_
 refine AW.cond_t (.tmp (Look.of rfl)) ?_
 refine AW.skip ?_
 refine AW.seq ?_
 refine AW.block ?_
 refine AW.rgs [.no, .no] [1, 2, 3, 6, 8, 9] [0, 1] (P := True) (l' := [(1, .e (.c (.own 0 o 4 1 false))), (2, iV x), (3, rV 1 0), (6, iV 3), (8, iV 4), (9, iV 3)]) (g' := [(0, some (5, .ds (dI .u8 (List.set (List.set (List.set bs (o + 3) ((x / 1) % 256)) (o + 2) ((x / 256) % 256)) (o + 1) ((x / 65536) % 256))))), (1, some (105, .ds [iD 4, D.lit (.bool true)]))]) (nx' := 2) zk trivial ?_
 refine AW.rg [.no, .no, .no, .call [] (iV 0) [] 0 [] none, .no, .no, .w, .n 24, .i ((x / 16777216) % 256), .n2 0 (o + 0), .ds (dI .u8 (List.set (List.set (List.set (List.set bs (o + 3) ((x / 1) % 256)) (o + 2) ((x / 256) % 256)) (o + 1) ((x / 65536) % 256)) (o + 0) ((x / 16777216) % 256)))] [1, 2, 3, 8, 9] [0, 1] (P := (_) ∧ ((-9223372036854775808) ≤ (24 : Int) ∧ (24 : Int) ≤ 9223372036854775807) ∧ ((24 : Int) = 24) ∧ ((24 : Nat) ≤ 64) ∧ (IntKind.u8.wrap (x / 16777216) = ((x / 16777216) % 256)) ∧ ((0 : Int) = 0) ∧ ((0 : Nat) < 4) ∧ (o + 0 * 1 = (o + 0)) ∧ ((o + 0) + 1 ≤ (dI .u8 (List.set (List.set (List.set bs (o + 3) ((x / 1) % 256)) (o + 2) ((x / 256) % 256)) (o + 1) ((x / 65536) % 256))).length) ∧ (updD (dI .u8 (List.set (List.set (List.set bs (o + 3) ((x / 1) % 256)) (o + 2) ((x / 256) % 256)) (o + 1) ((x / 65536) % 256))) (o + 0) [D.lit (.int .u8 ((x / 16777216) % 256))] = dI .u8 (List.set (List.set (List.set (List.set bs (o + 3) ((x / 1) % 256)) (o + 2) ((x / 256) % 256)) (o + 1) ((x / 65536) % 256)) (o + 0) ((x / 16777216) % 256)))) (l' := [(1, .e (.c (.own 0 o 4 1 false))), (2, iV x), (3, rV 1 0), (8, iV 4), (9, iV 3)]) (g' := [(0, some (5, .ds (dI .u8 (List.set (List.set (List.set (List.set bs (o + 3) ((x / 1) % 256)) (o + 2) ((x / 256) % 256)) (o + 1) ((x / 65536) % 256)) (o + 0) ((x / 16777216) % 256))))), (1, some (105, .ds [iD 4, D.lit (.bool true)]))]) (nx' := 2) zk ⟨(K_place_b 4 3 zo zo), ⟨by omega, by omega⟩, rfl, zo, (wrap_u8 _), rfl, zo, zo, zl04pe0, (dI_set _ _ _ _)⟩ ?_
 refine AW.rg [.w, .no] [1, 2, 3, 8, 9] [0, 1] (P := ((-9223372036854775808) ≤ (4 : Int) ∧ (4 : Int) ≤ 9223372036854775807)) (l' := [(1, .e (.c (.own 0 o 4 1 false))), (2, iV x), (3, rV 1 0), (8, iV 4), (9, iV 4)]) (g' := [(0, some (5, .ds (dI .u8 (List.set (List.set (List.set (List.set bs (o + 3) ((x / 1) % 256)) (o + 2) ((x / 256) % 256)) (o + 1) ((x / 65536) % 256)) (o + 0) ((x / 16777216) % 256))))), (1, some (105, .ds [iD 4, D.lit (.bool true)]))]) (nx' := 2) zk ⟨by omega, by omega⟩ ?_
 refine AWr.s ?_
 refine AW.rgs [.b false] [1, 2, 3, 8, 9, 10] [0, 1] (P := (¬ ((4 : Int) < 4))) (l' := [(1, .e (.c (.own 0 o 4 1 false))), (2, iV x), (3, rV 1 0), (8, iV 4), (9, iV 4), (10, .e (.c (.d (D.lit (.bool false)))))]) (g' := [(0, some (5, .ds (dI .u8 (List.set (List.set (List.set (List.set bs (o + 3) ((x / 1) % 256)) (o + 2) ((x / 256) % 256)) (o + 1) ((x / 65536) % 256)) (o + 0) ((x / 16777216) % 256))))), (1, some (105, .ds [iD 4, D.lit (.bool true)]))]) (nx' := 2) zk zo ?_
 refine AW.seq ?_
 refine AW.cond_f (.tmp (Look.of rfl)) ?_
 refine AW.exit ?_
 exact EndP.of (.inl rfl) [] (P := (((dI .u8 (List.set (List.set (List.set (List.set bs (o + 3) ((x / 1) % 256)) (o + 2) ((x / 256) % 256)) (o + 1) ((x / 65536) % 256)) (o + 0) ((x / 16777216) % 256))) : List D) = (dI .u8 (List.set (List.set (List.set (List.set bs (o + 3) ((x / 1) % 256)) (o + 2) ((x / 256) % 256)) (o + 1) ((x / 65536) % 256)) (o + 0) ((x / 16777216) % 256))))) zk rfl
end Go.Proofs.YtigiolfloefjnaaDoor
