/- Encodings of samples, one kind. No statement is proved here. -/
import Derived.Test.YtigiolfloefjnaaGreatDoorZL04K
namespace Go.Proofs.YtigiolfloefjnaaGreatDoor
open Go.ChangeShapes Go.WideShapes Go.ChangeAt Go.RowKit
set_option linter.unusedVariables false
set_option linter.unusedSimpArgs false
set_option maxHeartbeats 4000000
set_option maxRecDepth 100000
theorem zl04v1 {p : Prop} (h : p := by first | omega | (rw [dI_len]; omega) | (simp [dI_len] <;> omega) | rfl) : p := h
theorem K_get2 (l : List Int) (hn : List.length l = 2) (hb : Byt l) : Fun 109 [.agg [iC 2, .d (D.lit (.bool false))], .c (.d (D.sl (dI .u8 l) 2))] (toG []) 0 (iV (sgn 32768 ((List.getD l 0 0) + ((List.getD l 1 0) * 256)))) (toG []) 0 := by
 refine Fun.mk (n := 41) Tryz.func109 rfl rfl (Nat.le_of_ble_eq_true rfl) ?_
 intro cx hcx
 refine zr [.no, .no] [1, 2] [0] True [(1, .e (.c (.d (db l 2)))), (2, rV 0 0)] [(0, some (111, .ds [iD 2, D.lit (.bool false)]))] 1 trivial ?_
 refine zr [.no] [1, 2, 5] [0] True [(1, .e (.c (.d (db l 2)))), (2, rV 0 0), (5, .e (.c (.d (D.lit (.int .u64 0)))))] [(0, some (111, .ds [iD 2, D.lit (.bool false)]))] 1 trivial ?_
 refine AW.seq ?_
 refine zr [.no, .no, .no] [1, 2, 5, 9, 10] [0] True [(1, .e (.c (.d (db l 2)))), (2, rV 0 0), (5, .e (.c (.d (D.lit (.int .u64 0))))), (9, iV 2), (10, iV 0)] [(0, some (111, .ds [iD 2, D.lit (.bool false)]))] 1 trivial ?_
 refine AW.block ?_
 refine AW.rounds 3 ?_
 refine AWr.s ?_
 refine zr [.b true] [1, 2, 5, 9, 10, 11] [0] (((0 : Int) < 2)) [(1, .e (.c (.d (db l 2)))), (2, rV 0 0), (5, .e (.c (.d (D.lit (.int .u64 0))))), (9, iV 2), (10, iV 0), (11, .e (.c (.d (D.lit (.bool true)))))] [(0, some (111, .ds [iD 2, D.lit (.bool false)]))] 1 zo ?_
 refine AW.seq ?_
 refine zts ?_
 refine AW.seq ?_
 refine AW.block ?_
 refine zr [.no, .no] [1, 2, 5, 6, 9, 10] [0] True [(1, .e (.c (.d (db l 2)))), (2, rV 0 0), (5, .e (.c (.d (D.lit (.int .u64 0))))), (6, iV 0), (9, iV 2), (10, iV 0)] [(0, some (111, .ds [iD 2, D.lit (.bool false)]))] 1 trivial ?_
 have hx1 : 0 ≤ (List.getD l 0 0) ∧ (List.getD l 0 0) ≤ 255 := hb.at 0 zo
 refine zg [.no, .no, .no, .no, .call [] (iV 0) [] 0 [] none, .n 0, .d (D.lit (.int .u8 (List.getD l 0 0))), .w, .no, .w, .n 0, .i ((List.getD l 0 0) * 1), .no] [1, 2, 5, 9, 10] [0] ((_) ∧ ((0 : Int) = 0) ∧ ((0 : Nat) < 2) ∧ ((List.drop 0 (dI .u8 l))[0]? = some (D.lit (.int .u8 (List.getD l 0 0)))) ∧ (0 ≤ (List.getD l 0 0) ∧ (List.getD l 0 0) ≤ 18446744073709551615) ∧ ((-9223372036854775808) ≤ (0 : Int) ∧ (0 : Int) ≤ 9223372036854775807) ∧ ((0 : Int) = 0) ∧ ((0 : Nat) ≤ 64) ∧ (0 ≤ ((List.getD l 0 0) * 1) ∧ ((List.getD l 0 0) * 1) ≤ 18446744073709551615) ∧ (bitsI .or .u64 0 ((List.getD l 0 0) * 1) = ((List.getD l 0 0) * 1))) [(1, .e (.c (.d (db l 2)))), (2, rV 0 0), (5, .e (.c (.d (D.lit (.int .u64 ((List.getD l 0 0) * 1)))))), (9, iV 2), (10, iV 0)] [(0, some (111, .ds [iD 2, D.lit (.bool false)]))] 1 ⟨(K_place_l 2 0 zo zo), rfl, zo, (dI_at _ _ _ zl04v1), ⟨by omega, by omega⟩, ⟨by omega, by omega⟩, rfl, zo, ⟨by omega, by omega⟩, (or_z .u64 (by simp) zo).1⟩ ?_
 refine zg [.w, .no] [1, 2, 5, 9, 10] [0] ((-9223372036854775808) ≤ (1 : Int) ∧ (1 : Int) ≤ 9223372036854775807) [(1, .e (.c (.d (db l 2)))), (2, rV 0 0), (5, .e (.c (.d (D.lit (.int .u64 ((List.getD l 0 0) * 1)))))), (9, iV 2), (10, iV 1)] [(0, some (111, .ds [iD 2, D.lit (.bool false)]))] 1 ⟨by omega, by omega⟩ ?_
 refine AWr.s ?_
 refine zr [.b true] [1, 2, 5, 9, 10, 11] [0] (((1 : Int) < 2)) [(1, .e (.c (.d (db l 2)))), (2, rV 0 0), (5, .e (.c (.d (D.lit (.int .u64 ((List.getD l 0 0) * 1)))))), (9, iV 2), (10, iV 1), (11, .e (.c (.d (D.lit (.bool true)))))] [(0, some (111, .ds [iD 2, D.lit (.bool false)]))] 1 zo ?_
 refine AW.seq ?_
 refine zts ?_
 refine AW.seq ?_
 refine AW.block ?_
 refine zr [.no, .no] [1, 2, 5, 6, 9, 10] [0] True [(1, .e (.c (.d (db l 2)))), (2, rV 0 0), (5, .e (.c (.d (D.lit (.int .u64 ((List.getD l 0 0) * 1)))))), (6, iV 1), (9, iV 2), (10, iV 1)] [(0, some (111, .ds [iD 2, D.lit (.bool false)]))] 1 trivial ?_
 have hx2 : 0 ≤ (List.getD l 1 0) ∧ (List.getD l 1 0) ≤ 255 := hb.at 1 zo
 refine zg [.no, .no, .no, .no, .call [] (iV 1) [] 0 [] none, .n 1, .d (D.lit (.int .u8 (List.getD l 1 0))), .w, .no, .w, .n 8, .i (((List.getD l 0 0) * 1) + ((List.getD l 1 0) * 256)), .no] [1, 2, 5, 9, 10] [0] ((_) ∧ ((1 : Int) = 1) ∧ ((1 : Nat) < 2) ∧ ((List.drop 1 (dI .u8 l))[0]? = some (D.lit (.int .u8 (List.getD l 1 0)))) ∧ (0 ≤ (List.getD l 1 0) ∧ (List.getD l 1 0) ≤ 18446744073709551615) ∧ ((-9223372036854775808) ≤ (8 : Int) ∧ (8 : Int) ≤ 9223372036854775807) ∧ ((8 : Int) = 8) ∧ ((8 : Nat) ≤ 64) ∧ (0 ≤ ((List.getD l 1 0) * 256) ∧ ((List.getD l 1 0) * 256) ≤ 18446744073709551615) ∧ (bitsI .or .u64 ((List.getD l 0 0) * 1) ((List.getD l 1 0) * 256) = (((List.getD l 0 0) * 1) + ((List.getD l 1 0) * 256)))) [(1, .e (.c (.d (db l 2)))), (2, rV 0 0), (5, .e (.c (.d (D.lit (.int .u64 (((List.getD l 0 0) * 1) + ((List.getD l 1 0) * 256))))))), (9, iV 2), (10, iV 1)] [(0, some (111, .ds [iD 2, D.lit (.bool false)]))] 1 ⟨(K_place_l 2 1 zo zo), rfl, zo, (dI_at _ _ _ zl04v1), ⟨by omega, by omega⟩, ⟨by omega, by omega⟩, rfl, zo, ⟨by omega, by omega⟩, (or_lo (by simp) (i := 8) 256 (by decide) zo zo zo)⟩ ?_
 refine zg [.w, .no] [1, 2, 5, 9, 10] [0] ((-9223372036854775808) ≤ (2 : Int) ∧ (2 : Int) ≤ 9223372036854775807) [(1, .e (.c (.d (db l 2)))), (2, rV 0 0), (5, .e (.c (.d (D.lit (.int .u64 (((List.getD l 0 0) * 1) + ((List.getD l 1 0) * 256))))))), (9, iV 2), (10, iV 2)] [(0, some (111, .ds [iD 2, D.lit (.bool false)]))] 1 ⟨by omega, by omega⟩ ?_
 refine AWr.s ?_
 refine zr [.b false] [1, 2, 5, 9, 10, 11] [0] (¬ ((2 : Int) < 2)) [(1, .e (.c (.d (db l 2)))), (2, rV 0 0), (5, .e (.c (.d (D.lit (.int .u64 (((List.getD l 0 0) * 1) + ((List.getD l 1 0) * 256))))))), (9, iV 2), (10, iV 2), (11, .e (.c (.d (D.lit (.bool false)))))] [(0, some (111, .ds [iD 2, D.lit (.bool false)]))] 1 zo ?_
 refine AW.seq ?_
 refine zf ?_
 refine AW.exit ?_
 refine AW.seq ?_
 refine zr [.no, .no, .b false] [2, 5, 28] [0] (¬ ((2 : Int) = 1)) [(2, rV 0 0), (5, .e (.c (.d (D.lit (.int .u64 (((List.getD l 0 0) * 1) + ((List.getD l 1 0) * 256))))))), (28, .e (.c (.d (D.lit (.bool false)))))] [(0, some (111, .ds [iD 2, D.lit (.bool false)]))] 1 zo ?_
 refine zfs ?_
 refine zr [.no, .no, .w, .w, .no] [5, 7] [] (((-9223372036854775808) ≤ (16 : Int) ∧ (16 : Int) ≤ 9223372036854775807) ∧ ((-9223372036854775808) ≤ (48 : Int) ∧ (48 : Int) ≤ 9223372036854775807)) [(5, .e (.c (.d (D.lit (.int .u64 (((List.getD l 0 0) * 1) + ((List.getD l 1 0) * 256))))))), (7, iV 48)] [] 1 ⟨⟨by omega, by omega⟩, ⟨by omega, by omega⟩⟩ ?_
 by_cases hx3 : (((((List.getD l 0 0) * 1) + ((List.getD l 1 0) * 256)) * 281474976710656) ≤ 9223372036854775807)
 ·refine zr [.no, .no, .n 48, .w, .no, .n 48, .no] [4] [] (((48 : Int) = 48) ∧ ((48 : Nat) ≤ 64) ∧ (0 ≤ ((((List.getD l 0 0) * 1) + ((List.getD l 1 0) * 256)) * 281474976710656) ∧ ((((List.getD l 0 0) * 1) + ((List.getD l 1 0) * 256)) * 281474976710656) ≤ 18446744073709551615) ∧ ((-9223372036854775808) ≤ ((((List.getD l 0 0) * 1) + ((List.getD l 1 0) * 256)) * 281474976710656) ∧ ((((List.getD l 0 0) * 1) + ((List.getD l 1 0) * 256)) * 281474976710656) ≤ 9223372036854775807) ∧ ((48 : Int) = 48) ∧ ((48 : Nat) ≤ 64)) [(4, iV (((((List.getD l 0 0) * 1) + ((List.getD l 1 0) * 256)) * 281474976710656) / 281474976710656))] [] 1 ⟨rfl, zo, ⟨by omega, by omega⟩, ⟨by omega, by omega⟩, rfl, zo⟩ ?_
  refine AW.ret ?_
  exact EndP.of (.inr rfl) [] (P := (((sgn 32768 ((List.getD l 0 0) + ((List.getD l 1 0) * 256))) : Int) = (((((List.getD l 0 0) * 1) + ((List.getD l 1 0) * 256)) * 281474976710656) / 281474976710656))) zk (by first | rfl | omega | (unfold sgn; split <;> omega))
 ·refine zr [.no, .no, .n 48, .i (((((List.getD l 0 0) * 1) + ((List.getD l 1 0) * 256)) * 281474976710656) - 18446744073709551616), .no, .n 48, .no] [4] [] (((48 : Int) = 48) ∧ ((48 : Nat) ≤ 64) ∧ (0 ≤ ((((List.getD l 0 0) * 1) + ((List.getD l 1 0) * 256)) * 281474976710656) ∧ ((((List.getD l 0 0) * 1) + ((List.getD l 1 0) * 256)) * 281474976710656) ≤ 18446744073709551615) ∧ (IntKind.i64.wrap ((((List.getD l 0 0) * 1) + ((List.getD l 1 0) * 256)) * 281474976710656) = (((((List.getD l 0 0) * 1) + ((List.getD l 1 0) * 256)) * 281474976710656) - 18446744073709551616)) ∧ ((48 : Int) = 48) ∧ ((48 : Nat) ≤ 64)) [(4, iV ((((((List.getD l 0 0) * 1) + ((List.getD l 1 0) * 256)) * 281474976710656) - 18446744073709551616) / 281474976710656))] [] 1 ⟨rfl, zo, ⟨by omega, by omega⟩, (wrap_i64_hi zo), rfl, zo⟩ ?_
  refine AW.ret ?_
  exact EndP.of (.inr rfl) [] (P := (((sgn 32768 ((List.getD l 0 0) + ((List.getD l 1 0) * 256))) : Int) = ((((((List.getD l 0 0) * 1) + ((List.getD l 1 0) * 256)) * 281474976710656) - 18446744073709551616) / 281474976710656))) zk (by first | rfl | omega | (unfold sgn; split <;> omega))
theorem K_mean2 (b : Bool) (n : Int) (h : -32768 ≤ n ∧ n ≤ 32767) : Fun 108 [.agg [iC 2, .d (D.lit (.bool (b)))], iE n] (toG []) 0 (.e (.c (.d (D.lit (.int .i32 (n * 256)))))) (toG []) 0 := by
 refine Fun.mk (n := 26) Tryz.func108 rfl rfl (Nat.le_of_ble_eq_true rfl) ?_
 intro cx hcx
 refine zr [.no, .no] [1, 2] [0] True [(1, iV n), (2, rV 0 0)] [(0, some (111, .ds [iD 2, D.lit (.bool (b))]))] 1 trivial ?_
 refine AW.seq ?_
 refine zr [.no, .no] [1, 6] [] True [(1, iV n), (6, iV 2)] [] 1 trivial ?_
 refine AW.block ?_
 refine zr [.b false, .no] [1, 6, 7] [] (¬ ((2 : Int) = 1)) [(1, iV n), (6, iV 2), (7, .e (.c (.d (D.lit (.bool false)))))] [] 1 zo ?_
 refine zf ?_
 refine zr [.b true, .no] [1, 6, 13] [] (((2 : Int) = 2)) [(1, iV n), (6, iV 2), (13, .e (.c (.d (D.lit (.bool true)))))] [] 1 zo ?_
 refine zt ?_
 refine zr [.no, .n 8, .w, .no] [4] [] (((8 : Int) = 8) ∧ ((8 : Nat) ≤ 64) ∧ ((-9223372036854775808) ≤ (n * 256) ∧ (n * 256) ≤ 9223372036854775807) ∧ ((-2147483648) ≤ (n * 256) ∧ (n * 256) ≤ 2147483647)) [(4, .e (.c (.d (D.lit (.int .i32 (n * 256))))))] [] 1 ⟨rfl, zo, ⟨by omega, by omega⟩, ⟨by omega, by omega⟩⟩ ?_
 refine AW.ret ?_
 exact EndP.of (.inr rfl) [] (P := (((n * 256) : Int) = (n * 256))) zk rfl
theorem K_integer2 (b : Bool) (n : Int) (h : -8388608 ≤ n ∧ n ≤ 8388607) : Fun 94 [.agg [iC 2, .d (D.lit (.bool (b)))], .c (.d (D.lit (.int .i32 n)))] (toG []) 0 (iV (min ((n + 128) / 256) 32767)) (toG []) 0 := by
 refine Fun.mk (n := 28) Tryz.func94 rfl rfl (Nat.le_of_ble_eq_true rfl) ?_
 intro cx hcx
 refine zr [.no, .no] [1, 2] [0] True [(1, .e (.c (.d (D.lit (.int .i32 n))))), (2, rV 0 0)] [(0, some (111, .ds [iD 2, D.lit (.bool (b))]))] 1 trivial ?_
 refine zr [.no, .w, .no] [2, 5] [0] ((-9223372036854775808) ≤ n ∧ n ≤ 9223372036854775807) [(2, rV 0 0), (5, iV n)] [(0, some (111, .ds [iD 2, D.lit (.bool (b))]))] 1 ⟨by omega, by omega⟩ ?_
 refine AW.seq ?_
 refine zr [.no, .no] [5, 9] [] True [(5, iV n), (9, iV 2)] [] 1 trivial ?_
 refine AW.block ?_
 refine zr [.b false, .no] [5, 9, 10] [] (¬ ((2 : Int) = 1)) [(5, iV n), (9, iV 2), (10, .e (.c (.d (D.lit (.bool false)))))] [] 1 zo ?_
 refine zf ?_
 refine zr [.b true, .no] [5, 9, 17] [] (((2 : Int) = 2)) [(5, iV n), (9, iV 2), (17, .e (.c (.d (D.lit (.bool true)))))] [] 1 zo ?_
 refine zt ?_
 refine zr [.no, .w, .n 8, .no, .no] [4] [] (((-9223372036854775808) ≤ (n + 128) ∧ (n + 128) ≤ 9223372036854775807) ∧ ((8 : Int) = 8) ∧ ((8 : Nat) ≤ 64)) [(4, iV (min ((n + 128) / 256) 32767))] [] 1 ⟨⟨by omega, by omega⟩, rfl, zo⟩ ?_
 refine AW.ret ?_
 exact EndP.of (.inr rfl) [] (P := (((min ((n + 128) / 256) 32767) : Int) = (min ((n + 128) / 256) 32767))) zk rfl
theorem K_put2 (bs : List Int) (o : Nat) (x : Int) (ho : o + 2 ≤ List.length bs) (hx : -2147483648 ≤ x ∧ x ≤ 2147483647) : Fun 93 [.agg [iC 2, .d (D.lit (.bool false))], .c (.own 0 o 2 1 false), iE x] (toG [(0, some (5, .ds (dI .u8 bs)))]) 1 (.tup []) (toG [(0, some (5, .ds (dI .u8 (List.set (List.set bs (o + 0) ((x / 1) % 256)) (o + 1) ((x / 256) % 256)))))]) 1 := by
 refine Fun.mk (n := 23) Tryz.func93 rfl rfl (Nat.le_of_ble_eq_true rfl) ?_
 intro cx hcx
 refine zr [.no] [1, 2, 3] [0, 1] True [(1, .e (.c (.own 0 o 2 1 false))), (2, iV x), (3, rV 1 0)] [(0, some (5, .ds (dI .u8 bs))), (1, some (111, .ds [iD 2, D.lit (.bool false)]))] 2 trivial ?_
 refine zr [.no, .no, .no] [1, 2, 3, 8, 9] [0, 1] True [(1, .e (.c (.own 0 o 2 1 false))), (2, iV x), (3, rV 1 0), (8, iV 2), (9, iV 0)] [(0, some (5, .ds (dI .u8 bs))), (1, some (111, .ds [iD 2, D.lit (.bool false)]))] 2 trivial ?_
 refine AW.block ?_
 refine AW.rounds 3 ?_
 refine AWr.s ?_
 refine zr [.b true] [1, 2, 3, 8, 9, 10] [0, 1] (((0 : Int) < 2)) [(1, .e (.c (.own 0 o 2 1 false))), (2, iV x), (3, rV 1 0), (8, iV 2), (9, iV 0), (10, .e (.c (.d (D.lit (.bool true)))))] [(0, some (5, .ds (dI .u8 bs))), (1, some (111, .ds [iD 2, D.lit (.bool false)]))] 2 zo ?_
 refine AW.seq ?_
 refine zts ?_
 refine AW.seq ?_
 refine AW.block ?_
 refine zr [.no, .no] [1, 2, 3, 6, 8, 9] [0, 1] True [(1, .e (.c (.own 0 o 2 1 false))), (2, iV x), (3, rV 1 0), (6, iV 0), (8, iV 2), (9, iV 0)] [(0, some (5, .ds (dI .u8 bs))), (1, some (111, .ds [iD 2, D.lit (.bool false)]))] 2 trivial ?_
 refine zg [.no, .no, .no, .call [] (iV 0) [] 0 [] none, .no, .no, .w, .n 0, .i ((x / 1) % 256), .n2 0 (o + 0), .ds (dI .u8 (List.set bs (o + 0) ((x / 1) % 256)))] [1, 2, 3, 8, 9] [0, 1] ((_) ∧ ((-9223372036854775808) ≤ (0 : Int) ∧ (0 : Int) ≤ 9223372036854775807) ∧ ((0 : Int) = 0) ∧ ((0 : Nat) ≤ 64) ∧ (IntKind.u8.wrap (x / 1) = ((x / 1) % 256)) ∧ ((0 : Int) = 0) ∧ ((0 : Nat) < 2) ∧ (o + 0 * 1 = (o + 0)) ∧ ((o + 0) + 1 ≤ (dI .u8 bs).length) ∧ (updD (dI .u8 bs) (o + 0) [D.lit (.int .u8 ((x / 1) % 256))] = dI .u8 (List.set bs (o + 0) ((x / 1) % 256)))) [(1, .e (.c (.own 0 o 2 1 false))), (2, iV x), (3, rV 1 0), (8, iV 2), (9, iV 0)] [(0, some (5, .ds (dI .u8 (List.set bs (o + 0) ((x / 1) % 256))))), (1, some (111, .ds [iD 2, D.lit (.bool false)]))] 2 ⟨(K_place_l 2 0 zo zo), ⟨by omega, by omega⟩, rfl, zo, (wrap_u8 _), rfl, zo, zo, zl04v1, (dI_set _ _ _ _)⟩ ?_
 refine zg [.w, .no] [1, 2, 3, 8, 9] [0, 1] ((-9223372036854775808) ≤ (1 : Int) ∧ (1 : Int) ≤ 9223372036854775807) [(1, .e (.c (.own 0 o 2 1 false))), (2, iV x), (3, rV 1 0), (8, iV 2), (9, iV 1)] [(0, some (5, .ds (dI .u8 (List.set bs (o + 0) ((x / 1) % 256))))), (1, some (111, .ds [iD 2, D.lit (.bool false)]))] 2 ⟨by omega, by omega⟩ ?_
 refine AWr.s ?_
 refine zr [.b true] [1, 2, 3, 8, 9, 10] [0, 1] (((1 : Int) < 2)) [(1, .e (.c (.own 0 o 2 1 false))), (2, iV x), (3, rV 1 0), (8, iV 2), (9, iV 1), (10, .e (.c (.d (D.lit (.bool true)))))] [(0, some (5, .ds (dI .u8 (List.set bs (o + 0) ((x / 1) % 256))))), (1, some (111, .ds [iD 2, D.lit (.bool false)]))] 2 zo ?_
 refine AW.seq ?_
 refine zts ?_
 refine AW.seq ?_
 refine AW.block ?_
 refine zr [.no, .no] [1, 2, 3, 6, 8, 9] [0, 1] True [(1, .e (.c (.own 0 o 2 1 false))), (2, iV x), (3, rV 1 0), (6, iV 1), (8, iV 2), (9, iV 1)] [(0, some (5, .ds (dI .u8 (List.set bs (o + 0) ((x / 1) % 256))))), (1, some (111, .ds [iD 2, D.lit (.bool false)]))] 2 trivial ?_
 refine zg [.no, .no, .no, .call [] (iV 1) [] 0 [] none, .no, .no, .w, .n 8, .i ((x / 256) % 256), .n2 1 (o + 1), .ds (dI .u8 (List.set (List.set bs (o + 0) ((x / 1) % 256)) (o + 1) ((x / 256) % 256)))] [1, 2, 3, 8, 9] [0, 1] ((_) ∧ ((-9223372036854775808) ≤ (8 : Int) ∧ (8 : Int) ≤ 9223372036854775807) ∧ ((8 : Int) = 8) ∧ ((8 : Nat) ≤ 64) ∧ (IntKind.u8.wrap (x / 256) = ((x / 256) % 256)) ∧ ((1 : Int) = 1) ∧ ((1 : Nat) < 2) ∧ (o + 1 * 1 = (o + 1)) ∧ ((o + 1) + 1 ≤ (dI .u8 (List.set bs (o + 0) ((x / 1) % 256))).length) ∧ (updD (dI .u8 (List.set bs (o + 0) ((x / 1) % 256))) (o + 1) [D.lit (.int .u8 ((x / 256) % 256))] = dI .u8 (List.set (List.set bs (o + 0) ((x / 1) % 256)) (o + 1) ((x / 256) % 256)))) [(1, .e (.c (.own 0 o 2 1 false))), (2, iV x), (3, rV 1 0), (8, iV 2), (9, iV 1)] [(0, some (5, .ds (dI .u8 (List.set (List.set bs (o + 0) ((x / 1) % 256)) (o + 1) ((x / 256) % 256))))), (1, some (111, .ds [iD 2, D.lit (.bool false)]))] 2 ⟨(K_place_l 2 1 zo zo), ⟨by omega, by omega⟩, rfl, zo, (wrap_u8 _), rfl, zo, zo, zl04v1, (dI_set _ _ _ _)⟩ ?_
 refine zg [.w, .no] [1, 2, 3, 8, 9] [0, 1] ((-9223372036854775808) ≤ (2 : Int) ∧ (2 : Int) ≤ 9223372036854775807) [(1, .e (.c (.own 0 o 2 1 false))), (2, iV x), (3, rV 1 0), (8, iV 2), (9, iV 2)] [(0, some (5, .ds (dI .u8 (List.set (List.set bs (o + 0) ((x / 1) % 256)) (o + 1) ((x / 256) % 256))))), (1, some (111, .ds [iD 2, D.lit (.bool false)]))] 2 ⟨by omega, by omega⟩ ?_
 refine AWr.s ?_
 refine zr [.b false] [1, 2, 3, 8, 9, 10] [0, 1] (¬ ((2 : Int) < 2)) [(1, .e (.c (.own 0 o 2 1 false))), (2, iV x), (3, rV 1 0), (8, iV 2), (9, iV 2), (10, .e (.c (.d (D.lit (.bool false)))))] [(0, some (5, .ds (dI .u8 (List.set (List.set bs (o + 0) ((x / 1) % 256)) (o + 1) ((x / 256) % 256))))), (1, some (111, .ds [iD 2, D.lit (.bool false)]))] 2 zo ?_
 refine AW.seq ?_
 refine zf ?_
 refine AW.exit ?_
 exact EndP.of (.inl rfl) [] (P := (((dI .u8 (List.set (List.set bs (o + 0) ((x / 1) % 256)) (o + 1) ((x / 256) % 256))) : List D) = (dI .u8 (List.set (List.set bs (o + 0) ((x / 1) % 256)) (o + 1) ((x / 256) % 256))))) zk rfl
theorem zl04v0 {p : Prop} (h : p := by first | omega | with_reducible assumption | (simp <;> omega) | rfl | assumption) : p := h
theorem K_Decode2 (l : List Int) (m n : Nat) (hn : List.length l = n) (hm : m = n / 2) (hz : n % 2 = 0) (hf : m ≤ 524288) (hb : Byt l) : Fun 76 [iE 2, .c (.d (D.sl (dI .u8 l) n))] (toG []) 0 (.tup [.c (.own 0 0 m 1 true), iE 0]) (toG [(0, some (21, .ds (dI .i32 (decL dec2 2 l m))))]) 1 := by
 refine Fun.mk (n := 55) Tryz.func76 rfl rfl (Nat.le_of_ble_eq_true rfl) ?_
 intro cx hcx
 refine zr [.no, .no] [0, 1] [] True [(0, iV 2), (1, .e (.c (.d (db l n))))] [] 0 trivial ?_
 refine zr [.no, .call [] (iV 2) [] 0 [] none, .no] [0, 1, 6] [] _ [(0, iV 2), (1, .e (.c (.d (db l n)))), (6, iV 2)] [] 0 (K_size2) ?_
 refine AW.seq ?_
 refine zr [.no, .b false] [0, 1, 6, 13] [] (¬ ((2 : Int) = 0)) [(0, iV 2), (1, .e (.c (.d (db l n)))), (6, iV 2), (13, .e (.c (.d (D.lit (.bool false)))))] [] 0 zo ?_
 refine zfs ?_
 refine AW.seq ?_
 refine zr [.no, .no, .no, .ps, .b false] [0, 1, 6, 18] [] (((0 : Int) ≤ (((n : Nat) : Int) : Int)) ∧ ((0 : Int) < (2 : Int)) ∧ ((-9223372036854775808) ≤ ((n : Nat) : Int) ∧ ((n : Nat) : Int) ≤ 9223372036854775807) ∧ (¬ ((524288 : Int) < (((n : Nat) : Int) / 2)))) [(0, iV 2), (1, .e (.c (.d (db l n)))), (6, iV 2), (18, .e (.c (.d (D.lit (.bool false)))))] [] 0 ⟨zo, zo, ⟨by omega, by omega⟩, zo⟩ ?_
 refine zfs ?_
 refine AW.seq ?_
 refine zr [.no, .no, .no, .ps, .b false] [0, 1, 6, 23] [] (((0 : Int) ≤ (((n : Nat) : Int) : Int)) ∧ ((0 : Int) < (2 : Int)) ∧ (¬ ((((n : Nat) : Int) % 2) ≠ 0))) [(0, iV 2), (1, .e (.c (.d (db l n)))), (6, iV 2), (23, .e (.c (.d (D.lit (.bool false)))))] [] 0 ⟨zo, zo, zo⟩ ?_
 refine zfs ?_
 refine zr [.no, .n 2, .no, .no, .no] [1, 6, 7] [0] (((2 : Int) = 2) ∧ ((2 : Nat) < 8)) [(1, .e (.c (.d (db l n)))), (6, iV 2), (7, rV 0 0)] [(0, some (111, .ds [iD 2, D.lit (.bool false)]))] 1 ⟨rfl, zo⟩ ?_
 refine zr [.no, .no, .no, .ps, .mk (n / 2) (n / 2) (dI .i32 (List.replicate (n / 2) 0)), .no] [1, 6, 7, 8] [0, 1] (((0 : Int) ≤ (((n : Nat) : Int) : Int)) ∧ ((0 : Int) < (2 : Int)) ∧ ((-9223372036854775808) ≤ ((n : Nat) : Int) ∧ ((n : Nat) : Int) ≤ 9223372036854775807) ∧ (((((n : Nat) : Int) / 2) : Int) = (((n / 2) : Nat) : Int)) ∧ (((((n : Nat) : Int) / 2) : Int) = (((n / 2) : Nat) : Int)) ∧ ((n / 2) ≤ (n / 2)) ∧ (4 * (n / 2) ≤ 281474976710656) ∧ (List.replicate (n / 2) (D.lit (.int .i32 0)) = dI .i32 (List.replicate (n / 2) 0))) [(1, .e (.c (.d (db l n)))), (6, iV 2), (7, rV 0 0), (8, oV 1 0 (n / 2) 1)] [(0, some (111, .ds [iD 2, D.lit (.bool false)])), (1, some (21, .ds (dI .i32 (List.replicate (n / 2) 0))))] 2 ⟨zo, zo, ⟨by omega, by omega⟩, (by first | rfl | omega), (by first | rfl | omega), zo, zo, (dI_rep _ _ _)⟩ ?_
 refine AW.seq ?_
 refine zr [.no, .no, .no] [1, 6, 7, 8, 33, 34] [0, 1] True [(1, .e (.c (.d (db l n)))), (6, iV 2), (7, rV 0 0), (8, oV 1 0 (n / 2) 1), (33, uV (n / 2)), (34, iV 0)] [(0, some (111, .ds [iD 2, D.lit (.bool false)])), (1, some (21, .ds (dI .i32 (List.replicate (n / 2) 0))))] 2 trivial ?_
 refine AW.block ?_
 refine AW.loopE 0 hcx (fun (x : {x : Nat // match x with | i => (i ≤ m)}) => match x with | ⟨i, _⟩ => (⟨[(1, .e (.c (.d (db l n)))), (6, iV 2), (7, rV 0 0), (8, oV 1 0 (n / 2) 1), (33, uV (n / 2)), (34, uV i)], [(0, some (111, .ds [iD 2, D.lit (.bool false)])), (1, some (21, .ds (dI .i32 ((decL dec2 2 l i) ++ (List.replicate (m - i) 0)))))], 2⟩ : ES)) (fun (x : {x : Nat // match x with | i => (i ≤ m)}) => match x with | ⟨i, _⟩ => m - i) ⟨(0 : Nat), (show ((0 : Nat) ≤ m) from (by first | omega | assumption | simp))⟩ [] (P := (((dI .u8 l) : List D) = (dI .u8 l)) ∧ ((n : Nat) = n) ∧ ((2 : Int) = 2) ∧ ((0 : Nat) = 0) ∧ ((0 : Nat) = 0) ∧ (((n / 2) : Nat) = (n / 2)) ∧ (((((n / 2) : Nat) : Int) : Int) = (((n / 2) : Nat) : Int)) ∧ ((0 : Int) = 0) ∧ (([iD 2, D.lit (.bool false)] : List D) = [iD 2, D.lit (.bool false)]) ∧ (((dI .i32 ((decL dec2 2 l 0) ++ (List.replicate (m - 0) 0))) : List D) = (dI .i32 (List.replicate (n / 2) 0)))) zk ⟨rfl, rfl, rfl, rfl, rfl, rfl, rfl, rfl, rfl, (by first | rfl | exact decL_set zo rfl | (show dI .i32 ([] ++ List.replicate (m - 0) 0) = _; rw [List.nil_append, Nat.sub_zero, show m = n / 2 by omega]))⟩ ?_
 rintro ⟨i, hinv0⟩
 have hi : (i ≤ m) := hinv0
 refine AW.es (l := [(1, .e (.c (.d (db l n)))), (6, iV 2), (7, rV 0 0), (8, oV 1 0 (n / 2) 1), (33, uV (n / 2)), (34, uV i)]) (g := [(0, some (111, .ds [iD 2, D.lit (.bool false)])), (1, some (21, .ds (dI .i32 ((decL dec2 2 l i) ++ (List.replicate (m - i) 0)))))]) (nx := 2) rfl rfl rfl ?_
 have hbf : Byt (List.take 2 (List.drop (i * 2) l)) := (hb.drop _).take _
 have hdl : List.length (decL dec2 2 l i) = i := decL_len _ _ l i
 by_cases hx1 : (((i : Nat) : Int) < (((n / 2) : Nat) : Int))
 ·refine zr [.b true] [1, 6, 7, 8, 33, 34, 35] [0, 1] ((((i : Nat) : Int) < (((n / 2) : Nat) : Int))) [(1, .e (.c (.d (db l n)))), (6, iV 2), (7, rV 0 0), (8, oV 1 0 (n / 2) 1), (33, uV (n / 2)), (34, uV i), (35, .e (.c (.d (D.lit (.bool true)))))] [(0, some (111, .ds [iD 2, D.lit (.bool false)])), (1, some (21, .ds (dI .i32 ((decL dec2 2 l i) ++ (List.replicate (m - i) 0)))))] 2 zo ?_
  refine AW.seq ?_
  refine zts ?_
  refine AW.seq ?_
  refine AW.block ?_
  refine zr [.no, .no] [1, 6, 7, 8, 9, 33, 34] [0, 1] True [(1, .e (.c (.d (db l n)))), (6, iV 2), (7, rV 0 0), (8, oV 1 0 (n / 2) 1), (9, uV i), (33, uV (n / 2)), (34, uV i)] [(0, some (111, .ds [iD 2, D.lit (.bool false)])), (1, some (21, .ds (dI .i32 ((decL dec2 2 l i) ++ (List.replicate (m - i) 0)))))] 2 trivial ?_
  have hx2 : ((((-32768) : Int) ≤ (sgn 32768 ((List.getD (List.take 2 (List.drop (i * 2) l)) 0 0) + ((List.getD (List.take 2 (List.drop (i * 2) l)) 1 0) * 256)))) ∧ ((sgn 32768 ((List.getD (List.take 2 (List.drop (i * 2) l)) 0 0) + ((List.getD (List.take 2 (List.drop (i * 2) l)) 1 0) * 256))) ≤ 32767)) := kin2 (List.take 2 (List.drop (i * 2) l)) (by with_reducible assumption) (by first | assumption | omega | (simp only [List.length_take, List.length_drop]; omega))
  refine zg [.no, .no, .no, .no, .no, .no, .no, .w, .no, .w, .no, .w, .sls (i * 2) ((i + 1) * 2) 2 (dI .u8 (List.take 2 (List.drop (i * 2) l))), .call [] (iV (sgn 32768 ((List.getD (List.take 2 (List.drop (i * 2) l)) 0 0) + ((List.getD (List.take 2 (List.drop (i * 2) l)) 1 0) * 256)))) [] 0 [] none, .call [] (.e (.c (.d (D.lit (.int .i32 ((sgn 32768 ((List.getD (List.take 2 (List.drop (i * 2) l)) 0 0) + ((List.getD (List.take 2 (List.drop (i * 2) l)) 1 0) * 256))) * 256)))))) [] 0 [] none, .n2 i i, .ds (dI .i32 (List.set ((decL dec2 2 l i) ++ (List.replicate (m - i) 0)) i ((sgn 32768 ((List.getD (List.take 2 (List.drop (i * 2) l)) 0 0) + ((List.getD (List.take 2 (List.drop (i * 2) l)) 1 0) * 256))) * 256)))] [1, 6, 7, 8, 33, 34] [0, 1] (((-9223372036854775808) ≤ (((i : Nat) : Int) * 2) ∧ (((i : Nat) : Int) * 2) ≤ 9223372036854775807) ∧ ((-9223372036854775808) ≤ (((i : Nat) : Int) + 1) ∧ (((i : Nat) : Int) + 1) ≤ 9223372036854775807) ∧ ((-9223372036854775808) ≤ ((((i : Nat) : Int) + 1) * 2) ∧ ((((i : Nat) : Int) + 1) * 2) ≤ 9223372036854775807) ∧ (((((i : Nat) : Int) * 2) : Int) = (((i * 2) : Nat) : Int)) ∧ ((((((i : Nat) : Int) + 1) * 2) : Int) = ((((i + 1) * 2) : Nat) : Int)) ∧ ((i * 2) ≤ ((i + 1) * 2)) ∧ (((i + 1) * 2) ≤ n) ∧ (((i + 1) * 2) - (i * 2) = 2) ∧ (List.take (2 * 1) (List.drop ((i * 2) * 1) (dI .u8 l)) = (dI .u8 (List.take 2 (List.drop (i * 2) l)))) ∧ (_) ∧ (_) ∧ ((((i : Nat) : Int) : Int) = ((i : Nat) : Int)) ∧ (i < (n / 2)) ∧ ((0 : Nat) + i * 1 = i) ∧ (i + 1 ≤ (dI .i32 ((decL dec2 2 l i) ++ (List.replicate (m - i) 0))).length) ∧ (updD (dI .i32 ((decL dec2 2 l i) ++ (List.replicate (m - i) 0))) i [D.lit (.int .i32 ((sgn 32768 ((List.getD (List.take 2 (List.drop (i * 2) l)) 0 0) + ((List.getD (List.take 2 (List.drop (i * 2) l)) 1 0) * 256))) * 256))] = dI .i32 (List.set ((decL dec2 2 l i) ++ (List.replicate (m - i) 0)) i ((sgn 32768 ((List.getD (List.take 2 (List.drop (i * 2) l)) 0 0) + ((List.getD (List.take 2 (List.drop (i * 2) l)) 1 0) * 256))) * 256)))) [(1, .e (.c (.d (db l n)))), (6, iV 2), (7, rV 0 0), (8, oV 1 0 (n / 2) 1), (33, uV (n / 2)), (34, uV i)] [(0, some (111, .ds [iD 2, D.lit (.bool false)])), (1, some (21, .ds (dI .i32 (List.set ((decL dec2 2 l i) ++ (List.replicate (m - i) 0)) i ((sgn 32768 ((List.getD (List.take 2 (List.drop (i * 2) l)) 0 0) + ((List.getD (List.take 2 (List.drop (i * 2) l)) 1 0) * 256))) * 256)))))] 2 ⟨⟨by omega, by omega⟩, ⟨by omega, by omega⟩, ⟨by omega, by omega⟩, (by first | rfl | omega), (by first | rfl | omega), zo, zo, zo, (by first | rfl | with_reducible assumption | exact dI_app _ _ _ | exact dI_rep _ _ _ | (simp only [dI_take, dI_drop, dI_app, Nat.mul_one, Nat.zero_mul, List.drop_zero, List.nil_append, List.append_nil]; done) | (simp only [dI_take, dI_drop, dI_app, Nat.mul_one, Nat.zero_mul, List.drop_zero, List.nil_append, List.append_nil]; rfl) | (rw [List.take_of_length_le (by simp only [dI_len, List.length_drop, List.length_replicate, Nat.mul_one]; omega)]; first | rfl | (simp only [dI_drop, Nat.mul_one, Nat.zero_mul, List.drop_zero]; done) | (simp only [dI_drop, Nat.mul_one, Nat.zero_mul, List.drop_zero]; rfl))), (K_get2 (List.take 2 (List.drop (i * 2) l)) zl04v0 zl04v0), (K_mean2 false (sgn 32768 ((List.getD (List.take 2 (List.drop (i * 2) l)) 0 0) + ((List.getD (List.take 2 (List.drop (i * 2) l)) 1 0) * 256))) zl04v0), rfl, zo, zo, zl04v1, (dI_set _ _ _ _)⟩ ?_
  refine zg [.w, .no] [1, 6, 7, 8, 33, 34] [0, 1] ((-9223372036854775808) ≤ (((i : Nat) : Int) + 1) ∧ (((i : Nat) : Int) + 1) ≤ 9223372036854775807) [(1, .e (.c (.d (db l n)))), (6, iV 2), (7, rV 0 0), (8, oV 1 0 (n / 2) 1), (33, uV (n / 2)), (34, iV (↑i + 1))] [(0, some (111, .ds [iD 2, D.lit (.bool false)])), (1, some (21, .ds (dI .i32 (List.set ((decL dec2 2 l i) ++ (List.replicate (m - i) 0)) i ((sgn 32768 ((List.getD (List.take 2 (List.drop (i * 2) l)) 0 0) + ((List.getD (List.take 2 (List.drop (i * 2) l)) 1 0) * 256))) * 256)))))] 2 ⟨by omega, by omega⟩ ?_
  exact Rd.of ⟨((i + 1) : Nat), (show ((i + 1) ≤ m) from (by first | omega | assumption | simp))⟩ [] (P := (((dI .u8 l) : List D) = (dI .u8 l)) ∧ ((n : Nat) = n) ∧ ((2 : Int) = 2) ∧ ((0 : Nat) = 0) ∧ ((0 : Nat) = 0) ∧ (((n / 2) : Nat) = (n / 2)) ∧ (((((n / 2) : Nat) : Int) : Int) = (((n / 2) : Nat) : Int)) ∧ (((((i + 1) : Nat) : Int) : Int) = (((i : Nat) : Int) + 1)) ∧ (([iD 2, D.lit (.bool false)] : List D) = [iD 2, D.lit (.bool false)]) ∧ (((dI .i32 ((decL dec2 2 l (i + 1)) ++ (List.replicate (m - (i + 1)) 0))) : List D) = (dI .i32 (List.set ((decL dec2 2 l i) ++ (List.replicate (m - i) 0)) i ((sgn 32768 ((List.getD (List.take 2 (List.drop (i * 2) l)) 0 0) + ((List.getD (List.take 2 (List.drop (i * 2) l)) 1 0) * 256))) * 256))))) zk ⟨rfl, rfl, rfl, rfl, rfl, rfl, rfl, (by first | rfl | omega | assumption | (simp; done) | (simp; omega)), rfl, (by first | rfl | exact decL_set zo rfl | (show dI .i32 ([] ++ List.replicate (m - 0) 0) = _; rw [List.nil_append, Nat.sub_zero, show m = n / 2 by omega]))⟩ (show m - (i + 1) < m - i from (by first | omega | (show _ < _; simp; omega)))
 ·refine zr [.b false] [1, 6, 7, 8, 33, 34, 35] [0, 1] (¬ (((i : Nat) : Int) < (((n / 2) : Nat) : Int))) [(1, .e (.c (.d (db l n)))), (6, iV 2), (7, rV 0 0), (8, oV 1 0 (n / 2) 1), (33, uV (n / 2)), (34, uV i), (35, .e (.c (.d (D.lit (.bool false)))))] [(0, some (111, .ds [iD 2, D.lit (.bool false)])), (1, some (21, .ds (dI .i32 ((decL dec2 2 l i) ++ (List.replicate (m - i) 0)))))] 2 zo ?_
  refine AW.seq ?_
  refine zf ?_
  refine AW.exit ?_
  refine zr [.no, .no, .no] [4, 5] [1] True [(4, oV 1 0 (n / 2) 1), (5, iV 0)] [(1, some (21, .ds (dI .i32 ((decL dec2 2 l i) ++ (List.replicate (m - i) 0)))))] 2 trivial ?_
  refine AW.ret ?_
  obtain rfl : m = i := by omega
  exact EndP.of (.inr rfl) [(0, 1)] (P := ((0 : Nat) = 0) ∧ ((m : Nat) = (n / 2)) ∧ ((0 : Int) = 0) ∧ (((dI .i32 (decL dec2 2 l m)) : List D) = (dI .i32 ((decL dec2 2 l m) ++ (List.replicate (m - m) 0))))) zk ⟨rfl, (by first | omega | rfl | assumption | (simp; done) | (simp; omega)), rfl, (by rw [Nat.sub_self]; simp)⟩
theorem K_Encode2 (l : List Int) (n : Nat) (hn : List.length l = n) (hf : n ≤ 524288) (hs : smpsB l = true) : Fun 50 [iE 2, .c (.d (D.sl (dI .i32 l) n))] (toG []) 0 (.tup [.c (.own 0 0 (n * 2) 1 true), iE 0]) (toG [(0, some (5, .ds (dI .u8 (encL enc2 l n))))]) 1 := by
 refine Fun.mk (n := 52) Tryz.func50 rfl rfl (Nat.le_of_ble_eq_true rfl) ?_
 intro cx hcx
 refine zr [.no, .no] [0, 1] [] True [(0, iV 2), (1, .e (.c (.d (dm l n))))] [] 0 trivial ?_
 refine zr [.no, .call [] (iV 2) [] 0 [] none, .no] [0, 1, 6] [] _ [(0, iV 2), (1, .e (.c (.d (dm l n)))), (6, iV 2)] [] 0 (K_size2) ?_
 refine AW.seq ?_
 refine zr [.no, .b false] [0, 1, 6, 14] [] (¬ ((2 : Int) = 0)) [(0, iV 2), (1, .e (.c (.d (dm l n)))), (6, iV 2), (14, .e (.c (.d (D.lit (.bool false)))))] [] 0 zo ?_
 refine zfs ?_
 refine AW.seq ?_
 refine zr [.no, .no, .b false] [0, 1, 6, 17] [] (¬ ((524288 : Int) < ((n : Nat) : Int))) [(0, iV 2), (1, .e (.c (.d (dm l n)))), (6, iV 2), (17, .e (.c (.d (D.lit (.bool false)))))] [] 0 zo ?_
 refine zfs ?_
 refine zr [.no, .n 2, .no, .no, .no] [1, 6, 7] [0] (((2 : Int) = 2) ∧ ((2 : Nat) < 8)) [(1, .e (.c (.d (dm l n)))), (6, iV 2), (7, rV 0 0)] [(0, some (111, .ds [iD 2, D.lit (.bool false)]))] 1 ⟨rfl, zo⟩ ?_
 refine zr [.no, .no, .no, .w, .mk (n * 2) (n * 2) (dI .u8 (List.replicate (n * 2) 0)), .no] [1, 6, 7, 8] [0, 1] (((-9223372036854775808) ≤ (((n : Nat) : Int) * 2) ∧ (((n : Nat) : Int) * 2) ≤ 9223372036854775807) ∧ (((((n : Nat) : Int) * 2) : Int) = (((n * 2) : Nat) : Int)) ∧ (((((n : Nat) : Int) * 2) : Int) = (((n * 2) : Nat) : Int)) ∧ ((n * 2) ≤ (n * 2)) ∧ (1 * (n * 2) ≤ 281474976710656) ∧ (List.replicate (n * 2) (D.lit (.int .u8 0)) = dI .u8 (List.replicate (n * 2) 0))) [(1, .e (.c (.d (dm l n)))), (6, iV 2), (7, rV 0 0), (8, oV 1 0 (n * 2) 1)] [(0, some (111, .ds [iD 2, D.lit (.bool false)])), (1, some (5, .ds (dI .u8 (List.replicate (n * 2) 0))))] 2 ⟨⟨by omega, by omega⟩, (by first | rfl | omega), (by first | rfl | omega), zo, zo, (dI_rep _ _ _)⟩ ?_
 refine AW.seq ?_
 refine zr [.no, .no, .no] [6, 7, 8, 26, 27, 28] [0, 1] True [(6, iV 2), (7, rV 0 0), (8, oV 1 0 (n * 2) 1), (26, .e (.c (.d (dm l n)))), (27, uV n), (28, iV 0)] [(0, some (111, .ds [iD 2, D.lit (.bool false)])), (1, some (5, .ds (dI .u8 (List.replicate (n * 2) 0))))] 2 trivial ?_
 refine AW.block ?_
 refine AW.loopE 0 hcx (fun (x : {x : Nat // match x with | i => (i ≤ n)}) => match x with | ⟨i, _⟩ => (⟨[(6, iV 2), (7, rV 0 0), (8, oV 1 0 (n * 2) 1), (26, .e (.c (.d (dm l n)))), (27, uV n), (28, uV i)], [(0, some (111, .ds [iD 2, D.lit (.bool false)])), (1, some (5, .ds (dI .u8 ((encL enc2 l i) ++ (List.replicate ((n - i) * 2) 0)))))], 2⟩ : ES)) (fun (x : {x : Nat // match x with | i => (i ≤ n)}) => match x with | ⟨i, _⟩ => n - i) ⟨(0 : Nat), (show ((0 : Nat) ≤ n) from (by first | omega | assumption | simp))⟩ [] (P := ((2 : Int) = 2) ∧ ((0 : Nat) = 0) ∧ ((0 : Nat) = 0) ∧ (((n * 2) : Nat) = (n * 2)) ∧ (((dI .i32 l) : List D) = (dI .i32 l)) ∧ ((n : Nat) = n) ∧ ((((n : Nat) : Int) : Int) = ((n : Nat) : Int)) ∧ ((0 : Int) = 0) ∧ (([iD 2, D.lit (.bool false)] : List D) = [iD 2, D.lit (.bool false)]) ∧ (((dI .u8 ((encL enc2 l 0) ++ (List.replicate ((n - 0) * 2) 0))) : List D) = (dI .u8 (List.replicate (n * 2) 0)))) zk ⟨rfl, rfl, rfl, rfl, rfl, rfl, rfl, rfl, rfl, (by first | rfl | (simp [encL]; done) | exact encL_set2 zo)⟩ ?_
 rintro ⟨i, hinv0⟩
 have hi : (i ≤ n) := hinv0
 refine AW.es (l := [(6, iV 2), (7, rV 0 0), (8, oV 1 0 (n * 2) 1), (26, .e (.c (.d (dm l n)))), (27, uV n), (28, uV i)]) (g := [(0, some (111, .ds [iD 2, D.lit (.bool false)])), (1, some (5, .ds (dI .u8 ((encL enc2 l i) ++ (List.replicate ((n - i) * 2) 0)))))]) (nx := 2) rfl rfl rfl ?_
 have hel : List.length (encL enc2 l i) = i * 2 := encL_len enc2_len l i
 by_cases hx1 : (((i : Nat) : Int) < ((n : Nat) : Int))
 ·have hsi1 : smpB (List.getD l i 0) = true := smpsB_at hs i (by omega)
  refine zr [.b true] [6, 7, 8, 26, 27, 28, 29] [0, 1] ((((i : Nat) : Int) < ((n : Nat) : Int))) [(6, iV 2), (7, rV 0 0), (8, oV 1 0 (n * 2) 1), (26, .e (.c (.d (dm l n)))), (27, uV n), (28, uV i), (29, .e (.c (.d (D.lit (.bool true)))))] [(0, some (111, .ds [iD 2, D.lit (.bool false)])), (1, some (5, .ds (dI .u8 ((encL enc2 l i) ++ (List.replicate ((n - i) * 2) 0)))))] 2 zo ?_
  refine AW.seq ?_
  refine zts ?_
  refine AW.seq ?_
  refine AW.block ?_
  have hsi2 : smpB (List.getD l i 0) = true := smpsB_at hs i (by omega)
  have hx4 : -8388608 ≤ (List.getD l i 0) ∧ (List.getD l i 0) ≤ 8388607 := smps_at hs i zo
  refine zr [.no, .n i, .d (D.lit (.int .i32 (List.getD l i 0))), .no, .no] [6, 7, 8, 9, 10, 26, 27, 28] [0, 1] (((((i : Nat) : Int) : Int) = ((i : Nat) : Int)) ∧ (i < n) ∧ ((List.drop i (dI .i32 l))[0]? = some (D.lit (.int .i32 (List.getD l i 0))))) [(6, iV 2), (7, rV 0 0), (8, oV 1 0 (n * 2) 1), (9, uV i), (10, .e (.c (.d (D.lit (.int .i32 (List.getD l i 0)))))), (26, .e (.c (.d (dm l n)))), (27, uV n), (28, uV i)] [(0, some (111, .ds [iD 2, D.lit (.bool false)])), (1, some (5, .ds (dI .u8 ((encL enc2 l i) ++ (List.replicate ((n - i) * 2) 0)))))] 2 ⟨rfl, zo, (dI_at _ _ _ zl04v1)⟩ ?_
  refine AW.seq ?_
  have hsi4 : smpB (List.getD l i 0) = true := smpsB_at hs i (by omega)
  refine zr [.no, .call [] (.e (.c (.d (D.lit (.bool true))))) [] 0 [] none, .no] [6, 7, 8, 9, 10, 26, 27, 28, 35] [0, 1] (Fun 92 [.c (.d (D.lit (.int .i32 (List.getD l i 0))))] (toG []) 0 (.e (.c (.d (D.lit (.bool true))))) (toG []) 0) [(6, iV 2), (7, rV 0 0), (8, oV 1 0 (n * 2) 1), (9, uV i), (10, .e (.c (.d (D.lit (.int .i32 (List.getD l i 0)))))), (26, .e (.c (.d (dm l n)))), (27, uV n), (28, uV i), (35, .e (.c (.d (D.lit (.bool false)))))] [(0, some (111, .ds [iD 2, D.lit (.bool false)])), (1, some (5, .ds (dI .u8 ((encL enc2 l i) ++ (List.replicate ((n - i) * 2) 0)))))] 2 (by have h0 := (G_isSample (List.getD l i 0)); rw [hsi4] at h0; exact h0) ?_
  refine zfs ?_
  have hsi5 : smpB (List.getD l i 0) = true := smpsB_at hs i (by omega)
  refine zg [.no, .no, .no, .no, .w, .no, .w, .no, .w, .sl (i * 2) ((i + 1) * 2) (i * 2) 2, .no, .no, .call [] (iV (min (((List.getD l i 0) + 128) / 256) 32767)) [] 0 [] none, .call [1] (.tup []) [(0, some (5, .ds (dI .u8 (List.set (List.set ((encL enc2 l i) ++ (List.replicate ((n - i) * 2) 0)) ((i * 2) + 0) (((min (((List.getD l i 0) + 128) / 256) 32767) / 1) % 256)) ((i * 2) + 1) (((min (((List.getD l i 0) + 128) / 256) 32767) / 256) % 256)))))] 1 [] none] [6, 7, 8, 26, 27, 28] [0, 1] (((-9223372036854775808) ≤ (((i : Nat) : Int) * 2) ∧ (((i : Nat) : Int) * 2) ≤ 9223372036854775807) ∧ ((-9223372036854775808) ≤ (((i : Nat) : Int) + 1) ∧ (((i : Nat) : Int) + 1) ≤ 9223372036854775807) ∧ ((-9223372036854775808) ≤ ((((i : Nat) : Int) + 1) * 2) ∧ ((((i : Nat) : Int) + 1) * 2) ≤ 9223372036854775807) ∧ (((((i : Nat) : Int) * 2) : Int) = (((i * 2) : Nat) : Int)) ∧ ((((((i : Nat) : Int) + 1) * 2) : Int) = ((((i + 1) * 2) : Nat) : Int)) ∧ ((i * 2) ≤ ((i + 1) * 2)) ∧ (((i + 1) * 2) ≤ (n * 2)) ∧ ((0 : Nat) + (i * 2) * 1 = (i * 2)) ∧ (((i + 1) * 2) - (i * 2) = 2) ∧ (_) ∧ (_)) [(6, iV 2), (7, rV 0 0), (8, oV 1 0 (n * 2) 1), (26, .e (.c (.d (dm l n)))), (27, uV n), (28, uV i)] [(0, some (111, .ds [iD 2, D.lit (.bool false)])), (1, some (5, .ds (dI .u8 (List.set (List.set ((encL enc2 l i) ++ (List.replicate ((n - i) * 2) 0)) ((i * 2) + 0) (((min (((List.getD l i 0) + 128) / 256) 32767) / 1) % 256)) ((i * 2) + 1) (((min (((List.getD l i 0) + 128) / 256) 32767) / 256) % 256)))))] 2 ⟨⟨by omega, by omega⟩, ⟨by omega, by omega⟩, ⟨by omega, by omega⟩, (by first | rfl | omega), (by first | rfl | omega), zo, zo, zo, zo, (K_integer2 false (List.getD l i 0) zl04v0), (K_put2 ((encL enc2 l i) ++ (List.replicate ((n - i) * 2) 0)) (i * 2) (min (((List.getD l i 0) + 128) / 256) 32767) zl04v0 zl04v0)⟩ ?_
  refine zg [.w, .no] [6, 7, 8, 26, 27, 28] [0, 1] ((-9223372036854775808) ≤ (((i : Nat) : Int) + 1) ∧ (((i : Nat) : Int) + 1) ≤ 9223372036854775807) [(6, iV 2), (7, rV 0 0), (8, oV 1 0 (n * 2) 1), (26, .e (.c (.d (dm l n)))), (27, uV n), (28, iV (↑i + 1))] [(0, some (111, .ds [iD 2, D.lit (.bool false)])), (1, some (5, .ds (dI .u8 (List.set (List.set ((encL enc2 l i) ++ (List.replicate ((n - i) * 2) 0)) ((i * 2) + 0) (((min (((List.getD l i 0) + 128) / 256) 32767) / 1) % 256)) ((i * 2) + 1) (((min (((List.getD l i 0) + 128) / 256) 32767) / 256) % 256)))))] 2 ⟨by omega, by omega⟩ ?_
  exact Rd.of ⟨((i + 1) : Nat), (show ((i + 1) ≤ n) from (by first | omega | assumption | simp))⟩ [] (P := ((2 : Int) = 2) ∧ ((0 : Nat) = 0) ∧ ((0 : Nat) = 0) ∧ (((n * 2) : Nat) = (n * 2)) ∧ (((dI .i32 l) : List D) = (dI .i32 l)) ∧ ((n : Nat) = n) ∧ ((((n : Nat) : Int) : Int) = ((n : Nat) : Int)) ∧ (((((i + 1) : Nat) : Int) : Int) = (((i : Nat) : Int) + 1)) ∧ (([iD 2, D.lit (.bool false)] : List D) = [iD 2, D.lit (.bool false)]) ∧ (((dI .u8 ((encL enc2 l (i + 1)) ++ (List.replicate ((n - (i + 1)) * 2) 0))) : List D) = (dI .u8 (List.set (List.set ((encL enc2 l i) ++ (List.replicate ((n - i) * 2) 0)) ((i * 2) + 0) (((min (((List.getD l i 0) + 128) / 256) 32767) / 1) % 256)) ((i * 2) + 1) (((min (((List.getD l i 0) + 128) / 256) 32767) / 256) % 256))))) zk ⟨rfl, rfl, rfl, rfl, rfl, rfl, rfl, (by first | rfl | omega | assumption | (simp; done) | (simp; omega)), rfl, (by first | rfl | (simp [encL]; done) | exact encL_set2 zo)⟩ (show n - (i + 1) < n - i from (by first | omega | (show _ < _; simp; omega)))
 ·refine zr [.b false] [6, 7, 8, 26, 27, 28, 29] [0, 1] (¬ (((i : Nat) : Int) < ((n : Nat) : Int))) [(6, iV 2), (7, rV 0 0), (8, oV 1 0 (n * 2) 1), (26, .e (.c (.d (dm l n)))), (27, uV n), (28, uV i), (29, .e (.c (.d (D.lit (.bool false)))))] [(0, some (111, .ds [iD 2, D.lit (.bool false)])), (1, some (5, .ds (dI .u8 ((encL enc2 l i) ++ (List.replicate ((n - i) * 2) 0)))))] 2 zo ?_
  refine AW.seq ?_
  refine zf ?_
  refine AW.exit ?_
  refine zr [.no, .no, .no] [4, 5] [1] True [(4, oV 1 0 (n * 2) 1), (5, iV 0)] [(1, some (5, .ds (dI .u8 ((encL enc2 l i) ++ (List.replicate ((n - i) * 2) 0)))))] 2 trivial ?_
  refine AW.ret ?_
  obtain rfl : n = i := by omega
  exact EndP.of (.inr rfl) [(0, 1)] (P := ((0 : Nat) = 0) ∧ (((n * 2) : Nat) = (n * 2)) ∧ ((0 : Int) = 0) ∧ (((dI .u8 (encL enc2 l n)) : List D) = (dI .u8 ((encL enc2 l n) ++ (List.replicate ((n - n) * 2) 0))))) zk ⟨rfl, rfl, rfl, (by rw [Nat.sub_self]; simp)⟩
end Go.Proofs.YtigiolfloefjnaaGreatDoor
