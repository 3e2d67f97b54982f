/- Encodings of samples. No statement is proved here. -/
import Derived.Test.YtmdacpepaidkjaaDoorL04K
namespace Go.Proofs.YtmdacpepaidkjaaDoor
open Go.ChangeShapes Go.WideShapes Go.ChangeAt Go.RowKit
set_option linter.unusedVariables false
set_option linter.unusedSimpArgs false

set_option maxHeartbeats 4000000 in
set_option maxRecDepth 100000 in
theorem K_get1 (l : List Int) (hn : List.length l = 1) (hb : Byt l) : Fun 31 [.agg [iC 1, .d (D.lit (.bool false))], .c (.d (D.sl (dI .u8 l) 1))] (toG []) 0 (iV (List.getD l 0 0)) (toG []) 0 := by
  refine Fun.mk (n := 41) Tryd.func31 rfl rfl (Nat.le_of_ble_eq_true rfl) ?_
  intro cx hcx
  refine AW.rgs [.no, .no] [1, 2] [0] (P := True) (l' := [(1, .e (.c (.d (D.sl (dI .u8 l) 1)))), (2, rV 0 0)]) (g' := [(0, some (55, .ds [iD 1, D.lit (.bool false)]))]) (nx' := 1) (by kernel_rfl) trivial ?_
  refine AW.rgs [.no] [1, 2, 5] [0] (P := True) (l' := [(1, .e (.c (.d (D.sl (dI .u8 l) 1)))), (2, rV 0 0), (5, .e (.c (.d (D.lit (.int .u64 0)))))]) (g' := [(0, some (55, .ds [iD 1, D.lit (.bool false)]))]) (nx' := 1) (by kernel_rfl) trivial ?_
  refine AW.seq ?_
  refine AW.rgs [.no, .no, .no] [1, 2, 5, 9, 10] [0] (P := True) (l' := [(1, .e (.c (.d (D.sl (dI .u8 l) 1)))), (2, rV 0 0), (5, .e (.c (.d (D.lit (.int .u64 0))))), (9, iV 1), (10, iV 0)]) (g' := [(0, some (55, .ds [iD 1, D.lit (.bool false)]))]) (nx' := 1) (by kernel_rfl) trivial ?_
  refine AW.block ?_
  refine AW.rounds 2 ?_
  refine AWr.s ?_
  refine AW.rgs [.b true] [1, 2, 5, 9, 10, 11] [0] (P := (((0 : Int) < 1))) (l' := [(1, .e (.c (.d (D.sl (dI .u8 l) 1)))), (2, rV 0 0), (5, .e (.c (.d (D.lit (.int .u64 0))))), (9, iV 1), (10, iV 0), (11, .e (.c (.d (D.lit (.bool true)))))]) (g' := [(0, some (55, .ds [iD 1, D.lit (.bool false)]))]) (nx' := 1) (by kernel_rfl) (by omega) ?_
  refine AW.seq ?_
  refine AW.cond_t (.tmp (Look.of rfl)) ?_
  refine AW.skip ?_
  refine AW.seq ?_
  refine AW.block ?_
  refine AW.rgs [.no, .no] [1, 2, 5, 6, 9, 10] [0] (P := True) (l' := [(1, .e (.c (.d (D.sl (dI .u8 l) 1)))), (2, rV 0 0), (5, .e (.c (.d (D.lit (.int .u64 0))))), (6, iV 0), (9, iV 1), (10, iV 0)]) (g' := [(0, some (55, .ds [iD 1, D.lit (.bool false)]))]) (nx' := 1) (by kernel_rfl) trivial ?_
  have hx1 : 0 ≤ (List.getD l 0 0) ∧ (List.getD l 0 0) ≤ 255 := hb.at 0 (by omega)
  refine AW.rg [.no, .no, .no, .no, .call [] (iV 0) [] 0 [] none, .n 0, .d (D.lit (.int .u8 (List.getD l 0 0))), .w, .no, .w, .n 0, .i ((List.getD l 0 0) * 1), .no] [1, 2, 5, 9, 10] [0] (P := (_) ∧ ((0 : Int) = 0) ∧ ((0 : Nat) < 1) ∧ ((List.drop 0 (dI .u8 l))[0]? = some (D.lit (.int .u8 (List.getD l 0 0)))) ∧ (0 ≤ (List.getD l 0 0) ∧ (List.getD l 0 0) ≤ 18446744073709551615) ∧ ((-9223372036854775808) ≤ (0 : Int) ∧ (0 : Int) ≤ 9223372036854775807) ∧ ((0 : Int) = 0) ∧ ((0 : Nat) ≤ 64) ∧ (0 ≤ ((List.getD l 0 0) * 1) ∧ ((List.getD l 0 0) * 1) ≤ 18446744073709551615) ∧ (bitsI .or .u64 0 ((List.getD l 0 0) * 1) = ((List.getD l 0 0) * 1))) (l' := [(1, .e (.c (.d (D.sl (dI .u8 l) 1)))), (2, rV 0 0), (5, .e (.c (.d (D.lit (.int .u64 ((List.getD l 0 0) * 1)))))), (9, iV 1), (10, iV 0)]) (g' := [(0, some (55, .ds [iD 1, D.lit (.bool false)]))]) (nx' := 1) (by kernel_rfl) ⟨(K_place_l 1 0 (by omega) (by omega)), rfl, (by omega), (dI_at _ _ _ (by first | omega | rfl | (rw [dI_len]; omega) | (simp [dI_len] <;> omega))), ⟨by omega, by omega⟩, ⟨by omega, by omega⟩, rfl, (by omega), ⟨by omega, by omega⟩, (or_z .u64 (by simp) (by omega)).1⟩ ?_
  refine AW.rg [.w, .no] [1, 2, 5, 9, 10] [0] (P := ((-9223372036854775808) ≤ (1 : Int) ∧ (1 : Int) ≤ 9223372036854775807)) (l' := [(1, .e (.c (.d (D.sl (dI .u8 l) 1)))), (2, rV 0 0), (5, .e (.c (.d (D.lit (.int .u64 ((List.getD l 0 0) * 1)))))), (9, iV 1), (10, iV 1)]) (g' := [(0, some (55, .ds [iD 1, D.lit (.bool false)]))]) (nx' := 1) (by kernel_rfl) ⟨by omega, by omega⟩ ?_
  refine AWr.s ?_
  refine AW.rgs [.b false] [1, 2, 5, 9, 10, 11] [0] (P := (¬ ((1 : Int) < 1))) (l' := [(1, .e (.c (.d (D.sl (dI .u8 l) 1)))), (2, rV 0 0), (5, .e (.c (.d (D.lit (.int .u64 ((List.getD l 0 0) * 1)))))), (9, iV 1), (10, iV 1), (11, .e (.c (.d (D.lit (.bool false)))))]) (g' := [(0, some (55, .ds [iD 1, D.lit (.bool false)]))]) (nx' := 1) (by kernel_rfl) (by omega) ?_
  refine AW.seq ?_
  refine AW.cond_f (.tmp (Look.of rfl)) ?_
  refine AW.exit ?_
  refine AW.seq ?_
  refine AW.rgs [.no, .no, .b true] [2, 5, 28] [0] (P := (((1 : Int) = 1))) (l' := [(2, rV 0 0), (5, .e (.c (.d (D.lit (.int .u64 ((List.getD l 0 0) * 1)))))), (28, .e (.c (.d (D.lit (.bool true)))))]) (g' := [(0, some (55, .ds [iD 1, D.lit (.bool false)]))]) (nx' := 1) (by kernel_rfl) (by omega) ?_
  refine AW.cond_t (.tmp (Look.of rfl)) ?_
  refine AW.rgs [.no, .w, .no] [4] [] (P := ((-9223372036854775808) ≤ ((List.getD l 0 0) * 1) ∧ ((List.getD l 0 0) * 1) ≤ 9223372036854775807)) (l' := [(4, iV ((List.getD l 0 0) * 1))]) (g' := []) (nx' := 1) (by kernel_rfl) ⟨by omega, by omega⟩ ?_
  refine AW.ret ?_
  exact EndP.of (.inr rfl) [] (P := (((List.getD l 0 0) : Int) = ((List.getD l 0 0) * 1))) (by kernel_rfl) (by first | rfl | omega | (unfold sgn; split <;> omega))

set_option maxHeartbeats 4000000 in
set_option maxRecDepth 100000 in
theorem K_mean1 (b : Bool) (n : Int) (h : 0 ≤ n ∧ n ≤ 255) : Fun 30 [.agg [iC 1, .d (D.lit (.bool (b)))], iE n] (toG []) 0 (.e (.c (.d (D.lit (.int .i32 ((n - 128) * 65536)))))) (toG []) 0 := by
  refine Fun.mk (n := 26) Tryd.func30 rfl rfl (Nat.le_of_ble_eq_true rfl) ?_
  intro cx hcx
  refine AW.rgs [.no, .no] [1, 2] [0] (P := True) (l' := [(1, iV n), (2, rV 0 0)]) (g' := [(0, some (55, .ds [iD 1, D.lit (.bool (b))]))]) (nx' := 1) (by kernel_rfl) trivial ?_
  refine AW.seq ?_
  refine AW.rgs [.no, .no] [1, 6] [] (P := True) (l' := [(1, iV n), (6, iV 1)]) (g' := []) (nx' := 1) (by kernel_rfl) trivial ?_
  refine AW.block ?_
  refine AW.rgs [.b true, .no] [1, 6, 7] [] (P := (((1 : Int) = 1))) (l' := [(1, iV n), (6, iV 1), (7, .e (.c (.d (D.lit (.bool true)))))]) (g' := []) (nx' := 1) (by kernel_rfl) (by omega) ?_
  refine AW.cond_t (.tmp (Look.of rfl)) ?_
  refine AW.rgs [.no, .w, .n 16, .w, .no] [4] [] (P := ((-9223372036854775808) ≤ (n - 128) ∧ (n - 128) ≤ 9223372036854775807) ∧ ((16 : Int) = 16) ∧ ((16 : Nat) ≤ 64) ∧ ((-9223372036854775808) ≤ ((n - 128) * 65536) ∧ ((n - 128) * 65536) ≤ 9223372036854775807) ∧ ((-2147483648) ≤ ((n - 128) * 65536) ∧ ((n - 128) * 65536) ≤ 2147483647)) (l' := [(4, .e (.c (.d (D.lit (.int .i32 ((n - 128) * 65536))))))]) (g' := []) (nx' := 1) (by kernel_rfl) ⟨⟨by omega, by omega⟩, rfl, (by omega), ⟨by omega, by omega⟩, ⟨by omega, by omega⟩⟩ ?_
  refine AW.ret ?_
  exact EndP.of (.inr rfl) [] (P := ((((n - 128) * 65536) : Int) = ((n - 128) * 65536))) (by kernel_rfl) rfl

set_option maxHeartbeats 4000000 in
set_option maxRecDepth 100000 in
theorem K_integer2 (b : Bool) (n : Int) (h : -8388608 ≤ n ∧ n ≤ 8388607) : Fun 37 [.agg [iC 2, .d (D.lit (.bool (b)))], .c (.d (D.lit (.int .i32 n)))] (toG []) 0 (iV (min ((n + 128) / 256) 32767)) (toG []) 0 := by
  refine Fun.mk (n := 28) Tryd.func37 rfl rfl (Nat.le_of_ble_eq_true rfl) ?_
  intro cx hcx
  refine AW.rgs [.no, .no] [1, 2] [0] (P := True) (l' := [(1, .e (.c (.d (D.lit (.int .i32 n))))), (2, rV 0 0)]) (g' := [(0, some (55, .ds [iD 2, D.lit (.bool (b))]))]) (nx' := 1) (by kernel_rfl) trivial ?_
  refine AW.rgs [.no, .w, .no] [2, 5] [0] (P := ((-9223372036854775808) ≤ n ∧ n ≤ 9223372036854775807)) (l' := [(2, rV 0 0), (5, iV n)]) (g' := [(0, some (55, .ds [iD 2, D.lit (.bool (b))]))]) (nx' := 1) (by kernel_rfl) ⟨by omega, by omega⟩ ?_
  refine AW.seq ?_
  refine AW.rgs [.no, .no] [5, 9] [] (P := True) (l' := [(5, iV n), (9, iV 2)]) (g' := []) (nx' := 1) (by kernel_rfl) trivial ?_
  refine AW.block ?_
  refine AW.rgs [.b false, .no] [5, 9, 10] [] (P := (¬ ((2 : Int) = 1))) (l' := [(5, iV n), (9, iV 2), (10, .e (.c (.d (D.lit (.bool false)))))]) (g' := []) (nx' := 1) (by kernel_rfl) (by omega) ?_
  refine AW.cond_f (.tmp (Look.of rfl)) ?_
  refine AW.rgs [.b true, .no] [5, 9, 17] [] (P := (((2 : Int) = 2))) (l' := [(5, iV n), (9, iV 2), (17, .e (.c (.d (D.lit (.bool true)))))]) (g' := []) (nx' := 1) (by kernel_rfl) (by omega) ?_
  refine AW.cond_t (.tmp (Look.of rfl)) ?_
  refine AW.rgs [.no, .w, .n 8, .no, .no] [4] [] (P := ((-9223372036854775808) ≤ (n + 128) ∧ (n + 128) ≤ 9223372036854775807) ∧ ((8 : Int) = 8) ∧ ((8 : Nat) ≤ 64)) (l' := [(4, iV (min ((n + 128) / 256) 32767))]) (g' := []) (nx' := 1) (by kernel_rfl) ⟨⟨by omega, by omega⟩, rfl, (by omega)⟩ ?_
  refine AW.ret ?_
  exact EndP.of (.inr rfl) [] (P := (((min ((n + 128) / 256) 32767) : Int) = (min ((n + 128) / 256) 32767))) (by kernel_rfl) rfl

set_option maxHeartbeats 4000000 in
set_option maxRecDepth 100000 in
theorem K_Decode1 (l : List Int) (m n : Nat) (hn : List.length l = n) (hm : m = n / 1) (hz : n % 1 = 0) (hf : m ≤ 524288) (hb : Byt l) : Fun 10 [iE 1, .c (.d (D.sl (dI .u8 l) n))] (toG []) 0 (.tup [.c (.own 0 0 m 1 true), iE 0]) (toG [(0, some (21, .ds (dI .i32 (decL dec1 1 l m))))]) 1 := by
  refine Fun.mk (n := 55) Tryd.func10 rfl rfl (Nat.le_of_ble_eq_true rfl) ?_
  intro cx hcx
  refine AW.rgs [.no, .no] [0, 1] [] (P := True) (l' := [(0, iV 1), (1, .e (.c (.d (D.sl (dI .u8 l) n))))]) (g' := []) (nx' := 0) (by kernel_rfl) trivial ?_
  refine AW.rgs [.no, .call [] (iV 1) [] 0 [] none, .no] [0, 1, 6] [] (P := (_)) (l' := [(0, iV 1), (1, .e (.c (.d (D.sl (dI .u8 l) n)))), (6, iV 1)]) (g' := []) (nx' := 0) (by kernel_rfl) (K_size1) ?_
  refine AW.seq ?_
  refine AW.rgs [.no, .b false] [0, 1, 6, 13] [] (P := (¬ ((1 : Int) = 0))) (l' := [(0, iV 1), (1, .e (.c (.d (D.sl (dI .u8 l) n)))), (6, iV 1), (13, .e (.c (.d (D.lit (.bool false)))))]) (g' := []) (nx' := 0) (by kernel_rfl) (by omega) ?_
  refine AW.cond_f (.tmp (Look.of rfl)) ?_
  refine AW.skip ?_
  refine AW.seq ?_
  refine AW.rgs [.no, .no, .no, .ps, .b false] [0, 1, 6, 18] [] (P := ((0 : Int) ≤ (((n : Nat) : Int) : Int)) ∧ ((0 : Int) < (1 : Int)) ∧ ((-9223372036854775808) ≤ ((n : Nat) : Int) ∧ ((n : Nat) : Int) ≤ 9223372036854775807) ∧ (¬ ((524288 : Int) < (((n : Nat) : Int) / 1)))) (l' := [(0, iV 1), (1, .e (.c (.d (D.sl (dI .u8 l) n)))), (6, iV 1), (18, .e (.c (.d (D.lit (.bool false)))))]) (g' := []) (nx' := 0) (by kernel_rfl) ⟨(by omega), (by omega), ⟨by omega, by omega⟩, (by omega)⟩ ?_
  refine AW.cond_f (.tmp (Look.of rfl)) ?_
  refine AW.skip ?_
  refine AW.seq ?_
  refine AW.rgs [.no, .no, .no, .ps, .b false] [0, 1, 6, 23] [] (P := ((0 : Int) ≤ (((n : Nat) : Int) : Int)) ∧ ((0 : Int) < (1 : Int)) ∧ (¬ ((((n : Nat) : Int) % 1) ≠ 0))) (l' := [(0, iV 1), (1, .e (.c (.d (D.sl (dI .u8 l) n)))), (6, iV 1), (23, .e (.c (.d (D.lit (.bool false)))))]) (g' := []) (nx' := 0) (by kernel_rfl) ⟨(by omega), (by omega), (by omega)⟩ ?_
  refine AW.cond_f (.tmp (Look.of rfl)) ?_
  refine AW.skip ?_
  refine AW.rgs [.no, .n 1, .no, .no, .no] [1, 6, 7] [0] (P := ((1 : Int) = 1) ∧ ((1 : Nat) < 8)) (l' := [(1, .e (.c (.d (D.sl (dI .u8 l) n)))), (6, iV 1), (7, rV 0 0)]) (g' := [(0, some (55, .ds [iD 1, D.lit (.bool false)]))]) (nx' := 1) (by kernel_rfl) ⟨rfl, (by omega)⟩ ?_
  refine AW.rgs [.no, .no, .no, .ps, .mk (n / 1) (n / 1) (dI .i32 (List.replicate (n / 1) 0)), .no] [1, 6, 7, 8] [0, 1] (P := ((0 : Int) ≤ (((n : Nat) : Int) : Int)) ∧ ((0 : Int) < (1 : Int)) ∧ ((-9223372036854775808) ≤ ((n : Nat) : Int) ∧ ((n : Nat) : Int) ≤ 9223372036854775807) ∧ (((((n : Nat) : Int) / 1) : Int) = (((n / 1) : Nat) : Int)) ∧ (((((n : Nat) : Int) / 1) : Int) = (((n / 1) : Nat) : Int)) ∧ ((n / 1) ≤ (n / 1)) ∧ (4 * (n / 1) ≤ 281474976710656) ∧ (List.replicate (n / 1) (D.lit (.int .i32 0)) = dI .i32 (List.replicate (n / 1) 0))) (l' := [(1, .e (.c (.d (D.sl (dI .u8 l) n)))), (6, iV 1), (7, rV 0 0), (8, oV 1 0 (n / 1) 1)]) (g' := [(0, some (55, .ds [iD 1, D.lit (.bool false)])), (1, some (21, .ds (dI .i32 (List.replicate (n / 1) 0))))]) (nx' := 2) (by kernel_rfl) ⟨(by omega), (by omega), ⟨by omega, by omega⟩, (by first | rfl | omega), (by first | rfl | omega), (by omega), (by omega), (dI_rep _ _ _)⟩ ?_
  refine AW.seq ?_
  refine AW.rgs [.no, .no, .no] [1, 6, 7, 8, 33, 34] [0, 1] (P := True) (l' := [(1, .e (.c (.d (D.sl (dI .u8 l) n)))), (6, iV 1), (7, rV 0 0), (8, oV 1 0 (n / 1) 1), (33, iV (((n / 1) : Nat) : Int)), (34, iV 0)]) (g' := [(0, some (55, .ds [iD 1, D.lit (.bool false)])), (1, some (21, .ds (dI .i32 (List.replicate (n / 1) 0))))]) (nx' := 2) (by kernel_rfl) trivial ?_
  refine AW.block ?_
  refine AW.loopE 0 hcx (fun (x : {x : Nat // match x with | i => (i ≤ m)}) => match x with | ⟨i, _⟩ => (⟨[(1, .e (.c (.d (D.sl (dI .u8 l) n)))), (6, iV 1), (7, rV 0 0), (8, oV 1 0 (n / 1) 1), (33, iV (((n / 1) : Nat) : Int)), (34, iV ((i : Nat) : Int))], [(0, some (55, .ds [iD 1, D.lit (.bool false)])), (1, some (21, .ds (dI .i32 ((decL dec1 1 l i) ++ (List.replicate (m - i) 0)))))], 2⟩ : ES)) (fun (x : {x : Nat // match x with | i => (i ≤ m)}) => match x with | ⟨i, _⟩ => m - i) ⟨(0 : Nat), (show ((0 : Nat) ≤ m) from (by first | omega | assumption | simp))⟩ [] (P := (((dI .u8 l) : List D) = (dI .u8 l)) ∧ ((n : Nat) = n) ∧ ((1 : Int) = 1) ∧ ((0 : Nat) = 0) ∧ ((0 : Nat) = 0) ∧ (((n / 1) : Nat) = (n / 1)) ∧ (((((n / 1) : Nat) : Int) : Int) = (((n / 1) : Nat) : Int)) ∧ ((0 : Int) = 0) ∧ (([iD 1, D.lit (.bool false)] : List D) = [iD 1, D.lit (.bool false)]) ∧ (((dI .i32 ((decL dec1 1 l 0) ++ (List.replicate (m - 0) 0))) : List D) = (dI .i32 (List.replicate (n / 1) 0)))) (by kernel_rfl) ⟨rfl, rfl, rfl, rfl, rfl, rfl, rfl, rfl, rfl, (by first | rfl | exact decL_set (by omega) rfl | (show dI .i32 ([] ++ List.replicate (m - 0) 0) = _; rw [List.nil_append, Nat.sub_zero, show m = n / 1 by omega]))⟩ ?_
  rintro ⟨i, hinv0⟩
  have hi : (i ≤ m) := hinv0
  refine AW.es (l := [(1, .e (.c (.d (D.sl (dI .u8 l) n)))), (6, iV 1), (7, rV 0 0), (8, oV 1 0 (n / 1) 1), (33, iV (((n / 1) : Nat) : Int)), (34, iV ((i : Nat) : Int))]) (g := [(0, some (55, .ds [iD 1, D.lit (.bool false)])), (1, some (21, .ds (dI .i32 ((decL dec1 1 l i) ++ (List.replicate (m - i) 0)))))]) (nx := 2) rfl rfl rfl ?_
  have hbf : Byt (List.take 1 (List.drop (i * 1) l)) := (hb.drop _).take _
  have hdl : List.length (decL dec1 1 l i) = i := decL_len _ _ l i
  by_cases hx1 : (((i : Nat) : Int) < (((n / 1) : Nat) : Int))
  · refine AW.rgs [.b true] [1, 6, 7, 8, 33, 34, 35] [0, 1] (P := ((((i : Nat) : Int) < (((n / 1) : Nat) : Int)))) (l' := [(1, .e (.c (.d (D.sl (dI .u8 l) n)))), (6, iV 1), (7, rV 0 0), (8, oV 1 0 (n / 1) 1), (33, iV (((n / 1) : Nat) : Int)), (34, iV ↑i), (35, .e (.c (.d (D.lit (.bool true)))))]) (g' := [(0, some (55, .ds [iD 1, D.lit (.bool false)])), (1, some (21, .ds (dI .i32 ((decL dec1 1 l i) ++ (List.replicate (m - i) 0)))))]) (nx' := 2) (by kernel_rfl) (by omega) ?_
    refine AW.seq ?_
    refine AW.cond_t (.tmp (Look.of rfl)) ?_
    refine AW.skip ?_
    refine AW.seq ?_
    refine AW.block ?_
    refine AW.rgs [.no, .no] [1, 6, 7, 8, 9, 33, 34] [0, 1] (P := True) (l' := [(1, .e (.c (.d (D.sl (dI .u8 l) n)))), (6, iV 1), (7, rV 0 0), (8, oV 1 0 (n / 1) 1), (9, iV ↑i), (33, iV (((n / 1) : Nat) : Int)), (34, iV ↑i)]) (g' := [(0, some (55, .ds [iD 1, D.lit (.bool false)])), (1, some (21, .ds (dI .i32 ((decL dec1 1 l i) ++ (List.replicate (m - i) 0)))))]) (nx' := 2) (by kernel_rfl) trivial ?_
    have hx2 : (((0 : Int) ≤ (List.getD (List.take 1 (List.drop (i * 1) l)) 0 0)) ∧ ((List.getD (List.take 1 (List.drop (i * 1) l)) 0 0) ≤ 255)) := byt_one (List.take 1 (List.drop (i * 1) l)) (by assumption) (by first | assumption | omega | (simp only [List.length_take, List.length_drop]; omega))
    refine AW.rg [.no, .no, .no, .no, .no, .no, .no, .w, .no, .w, .no, .w, .sls (i * 1) ((i + 1) * 1) 1 (dI .u8 (List.take 1 (List.drop (i * 1) l))), .call [] (iV (List.getD (List.take 1 (List.drop (i * 1) l)) 0 0)) [] 0 [] none, .call [] (.e (.c (.d (D.lit (.int .i32 (((List.getD (List.take 1 (List.drop (i * 1) l)) 0 0) - 128) * 65536)))))) [] 0 [] none, .n2 i i, .ds (dI .i32 (List.set ((decL dec1 1 l i) ++ (List.replicate (m - i) 0)) i (((List.getD (List.take 1 (List.drop (i * 1) l)) 0 0) - 128) * 65536)))] [1, 6, 7, 8, 33, 34] [0, 1] (P := ((-9223372036854775808) ≤ (((i : Nat) : Int) * 1) ∧ (((i : Nat) : Int) * 1) ≤ 9223372036854775807) ∧ ((-9223372036854775808) ≤ (((i : Nat) : Int) + 1) ∧ (((i : Nat) : Int) + 1) ≤ 9223372036854775807) ∧ ((-9223372036854775808) ≤ ((((i : Nat) : Int) + 1) * 1) ∧ ((((i : Nat) : Int) + 1) * 1) ≤ 9223372036854775807) ∧ (((((i : Nat) : Int) * 1) : Int) = (((i * 1) : Nat) : Int)) ∧ ((((((i : Nat) : Int) + 1) * 1) : Int) = ((((i + 1) * 1) : Nat) : Int)) ∧ ((i * 1) ≤ ((i + 1) * 1)) ∧ (((i + 1) * 1) ≤ n) ∧ (((i + 1) * 1) - (i * 1) = 1) ∧ (List.take (1 * 1) (List.drop ((i * 1) * 1) (dI .u8 l)) = (dI .u8 (List.take 1 (List.drop (i * 1) l)))) ∧ (_) ∧ (_) ∧ ((((i : Nat) : Int) : Int) = ((i : Nat) : Int)) ∧ (i < (n / 1)) ∧ ((0 : Nat) + i * 1 = i) ∧ (i + 1 ≤ (dI .i32 ((decL dec1 1 l i) ++ (List.replicate (m - i) 0))).length) ∧ (updD (dI .i32 ((decL dec1 1 l i) ++ (List.replicate (m - i) 0))) i [D.lit (.int .i32 (((List.getD (List.take 1 (List.drop (i * 1) l)) 0 0) - 128) * 65536))] = dI .i32 (List.set ((decL dec1 1 l i) ++ (List.replicate (m - i) 0)) i (((List.getD (List.take 1 (List.drop (i * 1) l)) 0 0) - 128) * 65536)))) (l' := [(1, .e (.c (.d (D.sl (dI .u8 l) n)))), (6, iV 1), (7, rV 0 0), (8, oV 1 0 (n / 1) 1), (33, iV (((n / 1) : Nat) : Int)), (34, iV ↑i)]) (g' := [(0, some (55, .ds [iD 1, D.lit (.bool false)])), (1, some (21, .ds (dI .i32 (List.set ((decL dec1 1 l i) ++ (List.replicate (m - i) 0)) i (((List.getD (List.take 1 (List.drop (i * 1) l)) 0 0) - 128) * 65536)))))]) (nx' := 2) (by kernel_rfl) ⟨⟨by omega, by omega⟩, ⟨by omega, by omega⟩, ⟨by omega, by omega⟩, (by first | rfl | omega), (by first | rfl | omega), (by omega), (by omega), (by omega), (by first | rfl | assumption | exact dI_app _ _ _ | exact dI_rep _ _ _ | (simp only [dI_take, dI_drop, dI_app, Nat.mul_one, Nat.zero_mul, List.drop_zero, List.nil_append, List.append_nil]; done) | (simp only [dI_take, dI_drop, dI_app, Nat.mul_one, Nat.zero_mul, List.drop_zero, List.nil_append, List.append_nil]; rfl) | (rw [List.take_of_length_le (by simp only [dI_len, List.length_drop, Nat.mul_one]; omega)]; first | rfl | (simp only [dI_drop, Nat.mul_one, Nat.zero_mul, List.drop_zero]; done) | (simp only [dI_drop, Nat.mul_one, Nat.zero_mul, List.drop_zero]; rfl))), (K_get1 (List.take 1 (List.drop (i * 1) l)) (by first | omega | assumption | rfl | (simp <;> omega)) (by first | omega | assumption | rfl | (simp <;> omega))), (K_mean1 false (List.getD (List.take 1 (List.drop (i * 1) l)) 0 0) (by first | omega | assumption | rfl | (simp <;> omega))), rfl, (by omega), (by omega), (by first | omega | rfl | (rw [dI_len]; omega) | (simp [dI_len] <;> omega)), (dI_set _ _ _ _)⟩ ?_
    refine AW.rg [.w, .no] [1, 6, 7, 8, 33, 34] [0, 1] (P := ((-9223372036854775808) ≤ (((i : Nat) : Int) + 1) ∧ (((i : Nat) : Int) + 1) ≤ 9223372036854775807)) (l' := [(1, .e (.c (.d (D.sl (dI .u8 l) n)))), (6, iV 1), (7, rV 0 0), (8, oV 1 0 (n / 1) 1), (33, iV (((n / 1) : Nat) : Int)), (34, iV (↑i + 1))]) (g' := [(0, some (55, .ds [iD 1, D.lit (.bool false)])), (1, some (21, .ds (dI .i32 (List.set ((decL dec1 1 l i) ++ (List.replicate (m - i) 0)) i (((List.getD (List.take 1 (List.drop (i * 1) l)) 0 0) - 128) * 65536)))))]) (nx' := 2) (by kernel_rfl) ⟨by omega, by omega⟩ ?_
    exact Rd.of ⟨((i + 1) : Nat), (show ((i + 1) ≤ m) from (by first | omega | assumption | simp))⟩ [] (P := (((dI .u8 l) : List D) = (dI .u8 l)) ∧ ((n : Nat) = n) ∧ ((1 : Int) = 1) ∧ ((0 : Nat) = 0) ∧ ((0 : Nat) = 0) ∧ (((n / 1) : Nat) = (n / 1)) ∧ (((((n / 1) : Nat) : Int) : Int) = (((n / 1) : Nat) : Int)) ∧ (((((i + 1) : Nat) : Int) : Int) = (((i : Nat) : Int) + 1)) ∧ (([iD 1, D.lit (.bool false)] : List D) = [iD 1, D.lit (.bool false)]) ∧ (((dI .i32 ((decL dec1 1 l (i + 1)) ++ (List.replicate (m - (i + 1)) 0))) : List D) = (dI .i32 (List.set ((decL dec1 1 l i) ++ (List.replicate (m - i) 0)) i (((List.getD (List.take 1 (List.drop (i * 1) l)) 0 0) - 128) * 65536))))) (by kernel_rfl) ⟨rfl, rfl, rfl, rfl, rfl, rfl, rfl, (by first | rfl | omega | assumption | (simp; done) | (simp; omega)), rfl, (by first | rfl | exact decL_set (by omega) rfl | (show dI .i32 ([] ++ List.replicate (m - 0) 0) = _; rw [List.nil_append, Nat.sub_zero, show m = n / 1 by omega]))⟩ (show m - (i + 1) < m - i from (by first | omega | (show _ < _; simp; omega)))
  · refine AW.rgs [.b false] [1, 6, 7, 8, 33, 34, 35] [0, 1] (P := (¬ (((i : Nat) : Int) < (((n / 1) : Nat) : Int)))) (l' := [(1, .e (.c (.d (D.sl (dI .u8 l) n)))), (6, iV 1), (7, rV 0 0), (8, oV 1 0 (n / 1) 1), (33, iV (((n / 1) : Nat) : Int)), (34, iV ↑i), (35, .e (.c (.d (D.lit (.bool false)))))]) (g' := [(0, some (55, .ds [iD 1, D.lit (.bool false)])), (1, some (21, .ds (dI .i32 ((decL dec1 1 l i) ++ (List.replicate (m - i) 0)))))]) (nx' := 2) (by kernel_rfl) (by omega) ?_
    refine AW.seq ?_
    refine AW.cond_f (.tmp (Look.of rfl)) ?_
    refine AW.exit ?_
    refine AW.rgs [.no, .no, .no] [4, 5] [1] (P := True) (l' := [(4, oV 1 0 (n / 1) 1), (5, iV 0)]) (g' := [(1, some (21, .ds (dI .i32 ((decL dec1 1 l i) ++ (List.replicate (m - i) 0)))))]) (nx' := 2) (by kernel_rfl) trivial ?_
    refine AW.ret ?_
    obtain rfl : m = i := by omega
    exact EndP.of (.inr rfl) [(0, 1)] (P := ((0 : Nat) = 0) ∧ ((m : Nat) = (n / 1)) ∧ ((0 : Int) = 0) ∧ (((dI .i32 (decL dec1 1 l m)) : List D) = (dI .i32 ((decL dec1 1 l m) ++ (List.replicate (m - m) 0))))) (by kernel_rfl) ⟨rfl, (by first | omega | rfl | assumption | (simp; done) | (simp; omega)), rfl, (by rw [Nat.sub_self]; simp)⟩

set_option maxHeartbeats 4000000 in
set_option maxRecDepth 100000 in
theorem K_put2 (bs : List Int) (o : Nat) (x : Int) (ho : o + 2 ≤ List.length bs) (hx : -2147483648 ≤ x ∧ x ≤ 2147483647) : Fun 36 [.agg [iC 2, .d (D.lit (.bool false))], .c (.own 0 o 2 1 false), iE x] (toG [(0, some (5, .ds (dI .u8 bs)))]) 1 (.tup []) (toG [(0, some (5, .ds (dI .u8 (List.set (List.set bs (o + 0) ((x / 1) % 256)) (o + 1) ((x / 256) % 256)))))]) 1 := by
  refine Fun.mk (n := 23) Tryd.func36 rfl rfl (Nat.le_of_ble_eq_true rfl) ?_
  intro cx hcx
  refine AW.rgs [.no] [1, 2, 3] [0, 1] (P := True) (l' := [(1, .e (.c (.own 0 o 2 1 false))), (2, iV x), (3, rV 1 0)]) (g' := [(0, some (5, .ds (dI .u8 bs))), (1, some (55, .ds [iD 2, D.lit (.bool false)]))]) (nx' := 2) (by kernel_rfl) trivial ?_
  refine AW.rgs [.no, .no, .no] [1, 2, 3, 8, 9] [0, 1] (P := True) (l' := [(1, .e (.c (.own 0 o 2 1 false))), (2, iV x), (3, rV 1 0), (8, iV 2), (9, iV 0)]) (g' := [(0, some (5, .ds (dI .u8 bs))), (1, some (55, .ds [iD 2, D.lit (.bool false)]))]) (nx' := 2) (by kernel_rfl) trivial ?_
  refine AW.block ?_
  refine AW.rounds 3 ?_
  refine AWr.s ?_
  refine AW.rgs [.b true] [1, 2, 3, 8, 9, 10] [0, 1] (P := (((0 : Int) < 2))) (l' := [(1, .e (.c (.own 0 o 2 1 false))), (2, iV x), (3, rV 1 0), (8, iV 2), (9, iV 0), (10, .e (.c (.d (D.lit (.bool true)))))]) (g' := [(0, some (5, .ds (dI .u8 bs))), (1, some (55, .ds [iD 2, D.lit (.bool false)]))]) (nx' := 2) (by kernel_rfl) (by omega) ?_
  refine AW.seq ?_
  refine AW.cond_t (.tmp (Look.of rfl)) ?_
  refine AW.skip ?_
  refine AW.seq ?_
  refine AW.block ?_
  refine AW.rgs [.no, .no] [1, 2, 3, 6, 8, 9] [0, 1] (P := True) (l' := [(1, .e (.c (.own 0 o 2 1 false))), (2, iV x), (3, rV 1 0), (6, iV 0), (8, iV 2), (9, iV 0)]) (g' := [(0, some (5, .ds (dI .u8 bs))), (1, some (55, .ds [iD 2, D.lit (.bool false)]))]) (nx' := 2) (by kernel_rfl) trivial ?_
  refine AW.rg [.no, .no, .no, .call [] (iV 0) [] 0 [] none, .no, .no, .w, .n 0, .i ((x / 1) % 256), .n2 0 (o + 0), .ds (dI .u8 (List.set bs (o + 0) ((x / 1) % 256)))] [1, 2, 3, 8, 9] [0, 1] (P := (_) ∧ ((-9223372036854775808) ≤ (0 : Int) ∧ (0 : Int) ≤ 9223372036854775807) ∧ ((0 : Int) = 0) ∧ ((0 : Nat) ≤ 64) ∧ (IntKind.u8.wrap (x / 1) = ((x / 1) % 256)) ∧ ((0 : Int) = 0) ∧ ((0 : Nat) < 2) ∧ (o + 0 * 1 = (o + 0)) ∧ ((o + 0) + 1 ≤ (dI .u8 bs).length) ∧ (updD (dI .u8 bs) (o + 0) [D.lit (.int .u8 ((x / 1) % 256))] = dI .u8 (List.set bs (o + 0) ((x / 1) % 256)))) (l' := [(1, .e (.c (.own 0 o 2 1 false))), (2, iV x), (3, rV 1 0), (8, iV 2), (9, iV 0)]) (g' := [(0, some (5, .ds (dI .u8 (List.set bs (o + 0) ((x / 1) % 256))))), (1, some (55, .ds [iD 2, D.lit (.bool false)]))]) (nx' := 2) (by kernel_rfl) ⟨(K_place_l 2 0 (by omega) (by omega)), ⟨by omega, by omega⟩, rfl, (by omega), (wrap_u8 _), rfl, (by omega), (by omega), (by first | omega | rfl | (rw [dI_len]; omega) | (simp [dI_len] <;> omega)), (dI_set _ _ _ _)⟩ ?_
  refine AW.rg [.w, .no] [1, 2, 3, 8, 9] [0, 1] (P := ((-9223372036854775808) ≤ (1 : Int) ∧ (1 : Int) ≤ 9223372036854775807)) (l' := [(1, .e (.c (.own 0 o 2 1 false))), (2, iV x), (3, rV 1 0), (8, iV 2), (9, iV 1)]) (g' := [(0, some (5, .ds (dI .u8 (List.set bs (o + 0) ((x / 1) % 256))))), (1, some (55, .ds [iD 2, D.lit (.bool false)]))]) (nx' := 2) (by kernel_rfl) ⟨by omega, by omega⟩ ?_
  refine AWr.s ?_
  refine AW.rgs [.b true] [1, 2, 3, 8, 9, 10] [0, 1] (P := (((1 : Int) < 2))) (l' := [(1, .e (.c (.own 0 o 2 1 false))), (2, iV x), (3, rV 1 0), (8, iV 2), (9, iV 1), (10, .e (.c (.d (D.lit (.bool true)))))]) (g' := [(0, some (5, .ds (dI .u8 (List.set bs (o + 0) ((x / 1) % 256))))), (1, some (55, .ds [iD 2, D.lit (.bool false)]))]) (nx' := 2) (by kernel_rfl) (by omega) ?_
  refine AW.seq ?_
  refine AW.cond_t (.tmp (Look.of rfl)) ?_
  refine AW.skip ?_
  refine AW.seq ?_
  refine AW.block ?_
  refine AW.rgs [.no, .no] [1, 2, 3, 6, 8, 9] [0, 1] (P := True) (l' := [(1, .e (.c (.own 0 o 2 1 false))), (2, iV x), (3, rV 1 0), (6, iV 1), (8, iV 2), (9, iV 1)]) (g' := [(0, some (5, .ds (dI .u8 (List.set bs (o + 0) ((x / 1) % 256))))), (1, some (55, .ds [iD 2, D.lit (.bool false)]))]) (nx' := 2) (by kernel_rfl) trivial ?_
  refine AW.rg [.no, .no, .no, .call [] (iV 1) [] 0 [] none, .no, .no, .w, .n 8, .i ((x / 256) % 256), .n2 1 (o + 1), .ds (dI .u8 (List.set (List.set bs (o + 0) ((x / 1) % 256)) (o + 1) ((x / 256) % 256)))] [1, 2, 3, 8, 9] [0, 1] (P := (_) ∧ ((-9223372036854775808) ≤ (8 : Int) ∧ (8 : Int) ≤ 9223372036854775807) ∧ ((8 : Int) = 8) ∧ ((8 : Nat) ≤ 64) ∧ (IntKind.u8.wrap (x / 256) = ((x / 256) % 256)) ∧ ((1 : Int) = 1) ∧ ((1 : Nat) < 2) ∧ (o + 1 * 1 = (o + 1)) ∧ ((o + 1) + 1 ≤ (dI .u8 (List.set bs (o + 0) ((x / 1) % 256))).length) ∧ (updD (dI .u8 (List.set bs (o + 0) ((x / 1) % 256))) (o + 1) [D.lit (.int .u8 ((x / 256) % 256))] = dI .u8 (List.set (List.set bs (o + 0) ((x / 1) % 256)) (o + 1) ((x / 256) % 256)))) (l' := [(1, .e (.c (.own 0 o 2 1 false))), (2, iV x), (3, rV 1 0), (8, iV 2), (9, iV 1)]) (g' := [(0, some (5, .ds (dI .u8 (List.set (List.set bs (o + 0) ((x / 1) % 256)) (o + 1) ((x / 256) % 256))))), (1, some (55, .ds [iD 2, D.lit (.bool false)]))]) (nx' := 2) (by kernel_rfl) ⟨(K_place_l 2 1 (by omega) (by omega)), ⟨by omega, by omega⟩, rfl, (by omega), (wrap_u8 _), rfl, (by omega), (by omega), (by first | omega | rfl | (rw [dI_len]; omega) | (simp [dI_len] <;> omega)), (dI_set _ _ _ _)⟩ ?_
  refine AW.rg [.w, .no] [1, 2, 3, 8, 9] [0, 1] (P := ((-9223372036854775808) ≤ (2 : Int) ∧ (2 : Int) ≤ 9223372036854775807)) (l' := [(1, .e (.c (.own 0 o 2 1 false))), (2, iV x), (3, rV 1 0), (8, iV 2), (9, iV 2)]) (g' := [(0, some (5, .ds (dI .u8 (List.set (List.set bs (o + 0) ((x / 1) % 256)) (o + 1) ((x / 256) % 256))))), (1, some (55, .ds [iD 2, D.lit (.bool false)]))]) (nx' := 2) (by kernel_rfl) ⟨by omega, by omega⟩ ?_
  refine AWr.s ?_
  refine AW.rgs [.b false] [1, 2, 3, 8, 9, 10] [0, 1] (P := (¬ ((2 : Int) < 2))) (l' := [(1, .e (.c (.own 0 o 2 1 false))), (2, iV x), (3, rV 1 0), (8, iV 2), (9, iV 2), (10, .e (.c (.d (D.lit (.bool false)))))]) (g' := [(0, some (5, .ds (dI .u8 (List.set (List.set bs (o + 0) ((x / 1) % 256)) (o + 1) ((x / 256) % 256))))), (1, some (55, .ds [iD 2, D.lit (.bool false)]))]) (nx' := 2) (by kernel_rfl) (by omega) ?_
  refine AW.seq ?_
  refine AW.cond_f (.tmp (Look.of rfl)) ?_
  refine AW.exit ?_
  exact EndP.of (.inl rfl) [] (P := (((dI .u8 (List.set (List.set bs (o + 0) ((x / 1) % 256)) (o + 1) ((x / 256) % 256))) : List D) = (dI .u8 (List.set (List.set bs (o + 0) ((x / 1) % 256)) (o + 1) ((x / 256) % 256))))) (by kernel_rfl) rfl

set_option maxHeartbeats 4000000 in
set_option maxRecDepth 100000 in
theorem K_Encode2 (l : List Int) (n : Nat) (hn : List.length l = n) (hf : n ≤ 524288) (hs : smpsB l = true) : Fun 19 [iE 2, .c (.d (D.sl (dI .i32 l) n))] (toG []) 0 (.tup [.c (.own 0 0 (n * 2) 1 true), iE 0]) (toG [(0, some (5, .ds (dI .u8 (encL enc2 l n))))]) 1 := by
  refine Fun.mk (n := 52) Tryd.func19 rfl rfl (Nat.le_of_ble_eq_true rfl) ?_
  intro cx hcx
  refine AW.rgs [.no, .no] [0, 1] [] (P := True) (l' := [(0, iV 2), (1, .e (.c (.d (D.sl (dI .i32 l) n))))]) (g' := []) (nx' := 0) (by kernel_rfl) trivial ?_
  refine AW.rgs [.no, .call [] (iV 2) [] 0 [] none, .no] [0, 1, 6] [] (P := (_)) (l' := [(0, iV 2), (1, .e (.c (.d (D.sl (dI .i32 l) n)))), (6, iV 2)]) (g' := []) (nx' := 0) (by kernel_rfl) (K_size2) ?_
  refine AW.seq ?_
  refine AW.rgs [.no, .b false] [0, 1, 6, 14] [] (P := (¬ ((2 : Int) = 0))) (l' := [(0, iV 2), (1, .e (.c (.d (D.sl (dI .i32 l) n)))), (6, iV 2), (14, .e (.c (.d (D.lit (.bool false)))))]) (g' := []) (nx' := 0) (by kernel_rfl) (by omega) ?_
  refine AW.cond_f (.tmp (Look.of rfl)) ?_
  refine AW.skip ?_
  refine AW.seq ?_
  refine AW.rgs [.no, .no, .b false] [0, 1, 6, 17] [] (P := (¬ ((524288 : Int) < ((n : Nat) : Int)))) (l' := [(0, iV 2), (1, .e (.c (.d (D.sl (dI .i32 l) n)))), (6, iV 2), (17, .e (.c (.d (D.lit (.bool false)))))]) (g' := []) (nx' := 0) (by kernel_rfl) (by omega) ?_
  refine AW.cond_f (.tmp (Look.of rfl)) ?_
  refine AW.skip ?_
  refine AW.rgs [.no, .n 2, .no, .no, .no] [1, 6, 7] [0] (P := ((2 : Int) = 2) ∧ ((2 : Nat) < 8)) (l' := [(1, .e (.c (.d (D.sl (dI .i32 l) n)))), (6, iV 2), (7, rV 0 0)]) (g' := [(0, some (55, .ds [iD 2, D.lit (.bool false)]))]) (nx' := 1) (by kernel_rfl) ⟨rfl, (by omega)⟩ ?_
  refine AW.rgs [.no, .no, .no, .w, .mk (n * 2) (n * 2) (dI .u8 (List.replicate (n * 2) 0)), .no] [1, 6, 7, 8] [0, 1] (P := ((-9223372036854775808) ≤ (((n : Nat) : Int) * 2) ∧ (((n : Nat) : Int) * 2) ≤ 9223372036854775807) ∧ (((((n : Nat) : Int) * 2) : Int) = (((n * 2) : Nat) : Int)) ∧ (((((n : Nat) : Int) * 2) : Int) = (((n * 2) : Nat) : Int)) ∧ ((n * 2) ≤ (n * 2)) ∧ (1 * (n * 2) ≤ 281474976710656) ∧ (List.replicate (n * 2) (D.lit (.int .u8 0)) = dI .u8 (List.replicate (n * 2) 0))) (l' := [(1, .e (.c (.d (D.sl (dI .i32 l) n)))), (6, iV 2), (7, rV 0 0), (8, oV 1 0 (n * 2) 1)]) (g' := [(0, some (55, .ds [iD 2, D.lit (.bool false)])), (1, some (5, .ds (dI .u8 (List.replicate (n * 2) 0))))]) (nx' := 2) (by kernel_rfl) ⟨⟨by omega, by omega⟩, (by first | rfl | omega), (by first | rfl | omega), (by omega), (by omega), (dI_rep _ _ _)⟩ ?_
  refine AW.seq ?_
  refine AW.rgs [.no, .no, .no] [6, 7, 8, 26, 27, 28] [0, 1] (P := True) (l' := [(6, iV 2), (7, rV 0 0), (8, oV 1 0 (n * 2) 1), (26, .e (.c (.d (D.sl (dI .i32 l) n)))), (27, iV ↑n), (28, iV 0)]) (g' := [(0, some (55, .ds [iD 2, D.lit (.bool false)])), (1, some (5, .ds (dI .u8 (List.replicate (n * 2) 0))))]) (nx' := 2) (by kernel_rfl) trivial ?_
  refine AW.block ?_
  refine AW.loopE 0 hcx (fun (x : {x : Nat // match x with | i => (i ≤ n)}) => match x with | ⟨i, _⟩ => (⟨[(6, iV 2), (7, rV 0 0), (8, oV 1 0 (n * 2) 1), (26, .e (.c (.d (D.sl (dI .i32 l) n)))), (27, iV ((n : Nat) : Int)), (28, iV ((i : Nat) : Int))], [(0, some (55, .ds [iD 2, D.lit (.bool false)])), (1, some (5, .ds (dI .u8 ((encL enc2 l i) ++ (List.replicate ((n - i) * 2) 0)))))], 2⟩ : ES)) (fun (x : {x : Nat // match x with | i => (i ≤ n)}) => match x with | ⟨i, _⟩ => n - i) ⟨(0 : Nat), (show ((0 : Nat) ≤ n) from (by first | omega | assumption | simp))⟩ [] (P := ((2 : Int) = 2) ∧ ((0 : Nat) = 0) ∧ ((0 : Nat) = 0) ∧ (((n * 2) : Nat) = (n * 2)) ∧ (((dI .i32 l) : List D) = (dI .i32 l)) ∧ ((n : Nat) = n) ∧ ((((n : Nat) : Int) : Int) = ((n : Nat) : Int)) ∧ ((0 : Int) = 0) ∧ (([iD 2, D.lit (.bool false)] : List D) = [iD 2, D.lit (.bool false)]) ∧ (((dI .u8 ((encL enc2 l 0) ++ (List.replicate ((n - 0) * 2) 0))) : List D) = (dI .u8 (List.replicate (n * 2) 0)))) (by kernel_rfl) ⟨rfl, rfl, rfl, rfl, rfl, rfl, rfl, rfl, rfl, (by first | rfl | (simp [encL]; done) | exact encL_set2 (by omega))⟩ ?_
  rintro ⟨i, hinv0⟩
  have hi : (i ≤ n) := hinv0
  refine AW.es (l := [(6, iV 2), (7, rV 0 0), (8, oV 1 0 (n * 2) 1), (26, .e (.c (.d (D.sl (dI .i32 l) n)))), (27, iV ((n : Nat) : Int)), (28, iV ((i : Nat) : Int))]) (g := [(0, some (55, .ds [iD 2, D.lit (.bool false)])), (1, some (5, .ds (dI .u8 ((encL enc2 l i) ++ (List.replicate ((n - i) * 2) 0)))))]) (nx := 2) rfl rfl rfl ?_
  have hel : List.length (encL enc2 l i) = i * 2 := encL_len enc2_len l i
  by_cases hx1 : (((i : Nat) : Int) < ((n : Nat) : Int))
  · have hsi1 : smpB (List.getD l i 0) = true := smpsB_at hs i (by omega)
    refine AW.rgs [.b true] [6, 7, 8, 26, 27, 28, 29] [0, 1] (P := ((((i : Nat) : Int) < ((n : Nat) : Int)))) (l' := [(6, iV 2), (7, rV 0 0), (8, oV 1 0 (n * 2) 1), (26, .e (.c (.d (D.sl (dI .i32 l) n)))), (27, iV ↑n), (28, iV ↑i), (29, .e (.c (.d (D.lit (.bool true)))))]) (g' := [(0, some (55, .ds [iD 2, D.lit (.bool false)])), (1, some (5, .ds (dI .u8 ((encL enc2 l i) ++ (List.replicate ((n - i) * 2) 0)))))]) (nx' := 2) (by kernel_rfl) (by omega) ?_
    refine AW.seq ?_
    refine AW.cond_t (.tmp (Look.of rfl)) ?_
    refine AW.skip ?_
    refine AW.seq ?_
    refine AW.block ?_
    have hsi2 : smpB (List.getD l i 0) = true := smpsB_at hs i (by omega)
    have hx4 : -8388608 ≤ (List.getD l i 0) ∧ (List.getD l i 0) ≤ 8388607 := smps_at hs i (by omega)
    refine AW.rgs [.no, .n i, .d (D.lit (.int .i32 (List.getD l i 0))), .no, .no] [6, 7, 8, 9, 10, 26, 27, 28] [0, 1] (P := ((((i : Nat) : Int) : Int) = ((i : Nat) : Int)) ∧ (i < n) ∧ ((List.drop i (dI .i32 l))[0]? = some (D.lit (.int .i32 (List.getD l i 0))))) (l' := [(6, iV 2), (7, rV 0 0), (8, oV 1 0 (n * 2) 1), (9, iV ↑i), (10, .e (.c (.d (D.lit (.int .i32 (List.getD l i 0)))))), (26, .e (.c (.d (D.sl (dI .i32 l) n)))), (27, iV ↑n), (28, iV ↑i)]) (g' := [(0, some (55, .ds [iD 2, D.lit (.bool false)])), (1, some (5, .ds (dI .u8 ((encL enc2 l i) ++ (List.replicate ((n - i) * 2) 0)))))]) (nx' := 2) (by kernel_rfl) ⟨rfl, (by omega), (dI_at _ _ _ (by first | omega | rfl | (rw [dI_len]; omega) | (simp [dI_len] <;> omega)))⟩ ?_
    refine AW.seq ?_
    have hsi4 : smpB (List.getD l i 0) = true := smpsB_at hs i (by omega)
    refine AW.rgs [.no, .call [] (.e (.c (.d (D.lit (.bool true))))) [] 0 [] none, .no] [6, 7, 8, 9, 10, 26, 27, 28, 35] [0, 1] (P := (Fun 35 [.c (.d (D.lit (.int .i32 (List.getD l i 0))))] (toG []) 0 (.e (.c (.d (D.lit (.bool true))))) (toG []) 0)) (l' := [(6, iV 2), (7, rV 0 0), (8, oV 1 0 (n * 2) 1), (9, iV ↑i), (10, .e (.c (.d (D.lit (.int .i32 (List.getD l i 0)))))), (26, .e (.c (.d (D.sl (dI .i32 l) n)))), (27, iV ↑n), (28, iV ↑i), (35, .e (.c (.d (D.lit (.bool false)))))]) (g' := [(0, some (55, .ds [iD 2, D.lit (.bool false)])), (1, some (5, .ds (dI .u8 ((encL enc2 l i) ++ (List.replicate ((n - i) * 2) 0)))))]) (nx' := 2) (by kernel_rfl) (by have h0 := (G_isSample (List.getD l i 0)); rw [hsi4] at h0; exact h0) ?_
    refine AW.cond_f (.tmp (Look.of rfl)) ?_
    refine AW.skip ?_
    have hsi5 : smpB (List.getD l i 0) = true := smpsB_at hs i (by omega)
    refine AW.rg [.no, .no, .no, .no, .w, .no, .w, .no, .w, .sl (i * 2) ((i + 1) * 2) (i * 2) 2, .no, .no, .call [] (iV (min (((List.getD l i 0) + 128) / 256) 32767)) [] 0 [] none, .call [1] (.tup []) [(0, some (5, .ds (dI .u8 (List.set (List.set ((encL enc2 l i) ++ (List.replicate ((n - i) * 2) 0)) ((i * 2) + 0) (((min (((List.getD l i 0) + 128) / 256) 32767) / 1) % 256)) ((i * 2) + 1) (((min (((List.getD l i 0) + 128) / 256) 32767) / 256) % 256)))))] 1 [] none] [6, 7, 8, 26, 27, 28] [0, 1] (P := ((-9223372036854775808) ≤ (((i : Nat) : Int) * 2) ∧ (((i : Nat) : Int) * 2) ≤ 9223372036854775807) ∧ ((-9223372036854775808) ≤ (((i : Nat) : Int) + 1) ∧ (((i : Nat) : Int) + 1) ≤ 9223372036854775807) ∧ ((-9223372036854775808) ≤ ((((i : Nat) : Int) + 1) * 2) ∧ ((((i : Nat) : Int) + 1) * 2) ≤ 9223372036854775807) ∧ (((((i : Nat) : Int) * 2) : Int) = (((i * 2) : Nat) : Int)) ∧ ((((((i : Nat) : Int) + 1) * 2) : Int) = ((((i + 1) * 2) : Nat) : Int)) ∧ ((i * 2) ≤ ((i + 1) * 2)) ∧ (((i + 1) * 2) ≤ (n * 2)) ∧ ((0 : Nat) + (i * 2) * 1 = (i * 2)) ∧ (((i + 1) * 2) - (i * 2) = 2) ∧ (_) ∧ (_)) (l' := [(6, iV 2), (7, rV 0 0), (8, oV 1 0 (n * 2) 1), (26, .e (.c (.d (D.sl (dI .i32 l) n)))), (27, iV ↑n), (28, iV ↑i)]) (g' := [(0, some (55, .ds [iD 2, D.lit (.bool false)])), (1, some (5, .ds (dI .u8 (List.set (List.set ((encL enc2 l i) ++ (List.replicate ((n - i) * 2) 0)) ((i * 2) + 0) (((min (((List.getD l i 0) + 128) / 256) 32767) / 1) % 256)) ((i * 2) + 1) (((min (((List.getD l i 0) + 128) / 256) 32767) / 256) % 256)))))]) (nx' := 2) (by kernel_rfl) ⟨⟨by omega, by omega⟩, ⟨by omega, by omega⟩, ⟨by omega, by omega⟩, (by first | rfl | omega), (by first | rfl | omega), (by omega), (by omega), (by omega), (by omega), (K_integer2 false (List.getD l i 0) (by first | omega | assumption | rfl | (simp <;> omega))), (K_put2 ((encL enc2 l i) ++ (List.replicate ((n - i) * 2) 0)) (i * 2) (min (((List.getD l i 0) + 128) / 256) 32767) (by first | omega | assumption | rfl | (simp <;> omega)) (by first | omega | assumption | rfl | (simp <;> omega)))⟩ ?_
    refine AW.rg [.w, .no] [6, 7, 8, 26, 27, 28] [0, 1] (P := ((-9223372036854775808) ≤ (((i : Nat) : Int) + 1) ∧ (((i : Nat) : Int) + 1) ≤ 9223372036854775807)) (l' := [(6, iV 2), (7, rV 0 0), (8, oV 1 0 (n * 2) 1), (26, .e (.c (.d (D.sl (dI .i32 l) n)))), (27, iV ↑n), (28, iV (↑i + 1))]) (g' := [(0, some (55, .ds [iD 2, D.lit (.bool false)])), (1, some (5, .ds (dI .u8 (List.set (List.set ((encL enc2 l i) ++ (List.replicate ((n - i) * 2) 0)) ((i * 2) + 0) (((min (((List.getD l i 0) + 128) / 256) 32767) / 1) % 256)) ((i * 2) + 1) (((min (((List.getD l i 0) + 128) / 256) 32767) / 256) % 256)))))]) (nx' := 2) (by kernel_rfl) ⟨by omega, by omega⟩ ?_
    exact Rd.of ⟨((i + 1) : Nat), (show ((i + 1) ≤ n) from (by first | omega | assumption | simp))⟩ [] (P := ((2 : Int) = 2) ∧ ((0 : Nat) = 0) ∧ ((0 : Nat) = 0) ∧ (((n * 2) : Nat) = (n * 2)) ∧ (((dI .i32 l) : List D) = (dI .i32 l)) ∧ ((n : Nat) = n) ∧ ((((n : Nat) : Int) : Int) = ((n : Nat) : Int)) ∧ (((((i + 1) : Nat) : Int) : Int) = (((i : Nat) : Int) + 1)) ∧ (([iD 2, D.lit (.bool false)] : List D) = [iD 2, D.lit (.bool false)]) ∧ (((dI .u8 ((encL enc2 l (i + 1)) ++ (List.replicate ((n - (i + 1)) * 2) 0))) : List D) = (dI .u8 (List.set (List.set ((encL enc2 l i) ++ (List.replicate ((n - i) * 2) 0)) ((i * 2) + 0) (((min (((List.getD l i 0) + 128) / 256) 32767) / 1) % 256)) ((i * 2) + 1) (((min (((List.getD l i 0) + 128) / 256) 32767) / 256) % 256))))) (by kernel_rfl) ⟨rfl, rfl, rfl, rfl, rfl, rfl, rfl, (by first | rfl | omega | assumption | (simp; done) | (simp; omega)), rfl, (by first | rfl | (simp [encL]; done) | exact encL_set2 (by omega))⟩ (show n - (i + 1) < n - i from (by first | omega | (show _ < _; simp; omega)))
  · refine AW.rgs [.b false] [6, 7, 8, 26, 27, 28, 29] [0, 1] (P := (¬ (((i : Nat) : Int) < ((n : Nat) : Int)))) (l' := [(6, iV 2), (7, rV 0 0), (8, oV 1 0 (n * 2) 1), (26, .e (.c (.d (D.sl (dI .i32 l) n)))), (27, iV ↑n), (28, iV ↑i), (29, .e (.c (.d (D.lit (.bool false)))))]) (g' := [(0, some (55, .ds [iD 2, D.lit (.bool false)])), (1, some (5, .ds (dI .u8 ((encL enc2 l i) ++ (List.replicate ((n - i) * 2) 0)))))]) (nx' := 2) (by kernel_rfl) (by omega) ?_
    refine AW.seq ?_
    refine AW.cond_f (.tmp (Look.of rfl)) ?_
    refine AW.exit ?_
    refine AW.rgs [.no, .no, .no] [4, 5] [1] (P := True) (l' := [(4, oV 1 0 (n * 2) 1), (5, iV 0)]) (g' := [(1, some (5, .ds (dI .u8 ((encL enc2 l i) ++ (List.replicate ((n - i) * 2) 0)))))]) (nx' := 2) (by kernel_rfl) trivial ?_
    refine AW.ret ?_
    obtain rfl : n = i := by omega
    exact EndP.of (.inr rfl) [(0, 1)] (P := ((0 : Nat) = 0) ∧ (((n * 2) : Nat) = (n * 2)) ∧ ((0 : Int) = 0) ∧ (((dI .u8 (encL enc2 l n)) : List D) = (dI .u8 ((encL enc2 l n) ++ (List.replicate ((n - n) * 2) 0))))) (by kernel_rfl) ⟨rfl, rfl, rfl, (by rw [Nat.sub_self]; simp)⟩

end Go.Proofs.YtmdacpepaidkjaaDoor
