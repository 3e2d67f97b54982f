/- Integers of 128 bits. No statement is proved here. -/
import Derived.Test.YteggelophhpnfaaL13
import Derived.Laws.Externs
namespace Go.Proofs.Yteggelophhpnfaa
open Go.ChangeShapes Go.WideShapes Go.ChangeAt Go.RowKit
set_option linter.unusedVariables false
set_option linter.unusedSimpArgs false


theorem ext_add64 {x y : Int} (hx : 0 ≤ x ∧ x < 18446744073709551616) (hy : 0 ≤ y ∧ y < 18446744073709551616) (w : World) : (callFunc 64 #[Value.int .u64 x, Value.int .u64 y, Value.int .u64 0]).run Try.prog w = .ok (.value (.tuple #[Value.int .u64 ((x + y) % 18446744073709551616), Value.int .u64 ((x + y) / 18446744073709551616)])) w := by
  rw [run_callFunc_extern Try.func64 (by kernel_rfl) (by kernel_rfl) (by kernel_rfl) (e := add64Entry) (by kernel_rfl), run_add64 x y 0 (by omega) (by omega) (by omega) (by omega)]
  simp only [Result.andThen, Int.add_zero]
theorem run_sub0 (x y : Nat) (w : World) : (((Extern.MathBitsCarry.rows[1]'(by decide)).2) #[Value.int .u64 (x : Int), Value.int .u64 (y : Int), Value.int .u64 0]).run Try.prog w = .ok (.tuple #[Value.int .u64 (((x + 18446744073709551616 - y - 0) % 18446744073709551616 : Nat) : Int), Value.int .u64 ((if x < y + 0 then 1 else 0 : Nat) : Int)]) w := rfl
theorem ext_sub64 {x y : Int} (hx : 0 ≤ x ∧ x < 18446744073709551616) (hy : 0 ≤ y ∧ y < 18446744073709551616) (w : World) : (callFunc 65 #[Value.int .u64 x, Value.int .u64 y, Value.int .u64 0]).run Try.prog w = .ok (.value (.tuple #[Value.int .u64 ((x - y) % 18446744073709551616), Value.int .u64 (0 - (x - y) / 18446744073709551616)])) w := by
  obtain ⟨a, rfl⟩ := Int.eq_ofNat_of_zero_le hx.1
  obtain ⟨b, rfl⟩ := Int.eq_ofNat_of_zero_le hy.1
  rw [run_callFunc_extern Try.func65 (by kernel_rfl) (by kernel_rfl) (by kernel_rfl) (e := (Extern.MathBitsCarry.rows[1]'(by decide)).2) (by kernel_rfl), run_sub0 a b]
  have e1 : (((a + 18446744073709551616 - b - 0) % 18446744073709551616 : Nat) : Int) = ((a : Int) - (b : Int)) % 18446744073709551616 := by omega
  have e2 : ((if a < b + 0 then 1 else 0 : Nat) : Int) = 0 - ((a : Int) - (b : Int)) / 18446744073709551616 := by split <;> omega
  rw [e1, e2]
  rfl
theorem wide_mul {p n : Int} (hn : 0 ≤ n ∧ n ≤ 1152921504606846976) : p * n = (p / 18446744073709551616) * n * 18446744073709551616 + (p % 18446744073709551616) * n ∧ 0 ≤ (p % 18446744073709551616) * n ∧ (p % 18446744073709551616) * n ≤ 21267647932558653966460912964485513216 := by
  refine ⟨?_, Int.mul_nonneg (by omega) hn.1, ?_⟩
  · have e : p = (p / 18446744073709551616) * 18446744073709551616 + p % 18446744073709551616 := by omega
    have h : p * n = ((p / 18446744073709551616) * 18446744073709551616 + p % 18446744073709551616) * n := congrArg (· * n) e
    rw [Int.add_mul, Int.mul_right_comm] at h
    exact h
  · have h1 := Int.mul_le_mul_of_nonneg_left hn.2 (show 0 ≤ p % 18446744073709551616 by omega)
    omega

set_option maxHeartbeats 4000000 in
set_option maxRecDepth 100000 in
theorem W_Of (n : Int) (hn : -9223372036854775808 ≤ n ∧ n ≤ 9223372036854775807) : Fun 41 [iE n] (toG []) 0 (.e (.agg [iC (n / 18446744073709551616), .d (D.lit (.int .u64 (n % 18446744073709551616)))])) (toG []) 0 := by
  refine Fun.mk (n := 8) Try.func41 rfl rfl (Nat.le_of_ble_eq_true rfl) ?_
  intro cx hcx
  refine AW.rgs [.no] [0, 2] [0] (P := True) (l' := [(0, iV n), (2, rV 0 0)]) (g' := [(0, some (76, .ds [iD 0, D.lit (.int .u64 0)]))]) (nx' := 1) (by kernel_rfl) trivial ?_
  refine AW.rgs [.no, .n 63, .no, .i (n % 18446744073709551616), .no, .no] [2] [0] (P := ((63 : Int) = 63) ∧ ((63 : Nat) ≤ 64) ∧ (IntKind.u64.wrap (n : Int) = (n % 18446744073709551616))) (l' := [(2, rV 0 0)]) (g' := [(0, some (76, .ds [iD (n / 9223372036854775808), D.lit (.int .u64 (n % 18446744073709551616))]))]) (nx' := 1) (by kernel_rfl) ⟨rfl, (by omega), (wrap_u64 _)⟩ ?_
  refine AW.ret ?_
  exact EndP.of (.inr rfl) [] (P := (((n / 18446744073709551616) : Int) = (n / 9223372036854775808)) ∧ (((n % 18446744073709551616) : Int) = (n % 18446744073709551616))) (by kernel_rfl) ⟨(by first | rfl | omega), rfl⟩

set_option maxHeartbeats 4000000 in
set_option maxRecDepth 100000 in
theorem W_Add (p q : Int) (hp : -42535295865117307932921825928971026432 ≤ p ∧ p ≤ 42535295865117307932921825928971026432) (hq : -42535295865117307932921825928971026432 ≤ q ∧ q ≤ 42535295865117307932921825928971026432) : Fun 58 [.agg [iC (p / 18446744073709551616), .d (D.lit (.int .u64 (p % 18446744073709551616)))], .agg [iC (q / 18446744073709551616), .d (D.lit (.int .u64 (q % 18446744073709551616)))]] (toG []) 0 (.e (.agg [iC ((p + q) / 18446744073709551616), .d (D.lit (.int .u64 ((p + q) % 18446744073709551616)))])) (toG []) 0 := by
  refine Fun.mk (n := 25) Try.func58 rfl rfl (Nat.le_of_ble_eq_true rfl) ?_
  intro cx hcx
  refine AW.rgs [.no, .no, .no] [2, 3, 4] [0, 1, 2] (P := True) (l' := [(2, rV 0 0), (3, rV 1 0), (4, rV 2 0)]) (g' := [(0, some (76, .ds [iD (p / 18446744073709551616), D.lit (.int .u64 (p % 18446744073709551616))])), (1, some (76, .ds [iD (q / 18446744073709551616), D.lit (.int .u64 (q % 18446744073709551616))])), (2, some (76, .ds [iD 0, D.lit (.int .u64 0)]))]) (nx' := 3) (by kernel_rfl) trivial ?_
  refine AW.rgs [.no, .no, .no, .no, .ds [D.lit (.int .u64 (((p % 18446744073709551616) + (q % 18446744073709551616)) % 18446744073709551616)), D.lit (.int .u64 (((p % 18446744073709551616) + (q % 18446744073709551616)) / 18446744073709551616))], .no, .no, .no, .no, .no] [2, 3, 4, 5, 6] [0, 1, 2] (P := ((Value.int .u64 ((((p % 18446744073709551616) + (q % 18446744073709551616)) % 18446744073709551616) : Int)).oneCell' = true) ∧ ((Value.int .u64 ((((p % 18446744073709551616) + (q % 18446744073709551616)) / 18446744073709551616) : Int)).oneCell' = true) ∧ (∀ w : World, (callFunc 64 #[Value.int .u64 ((p % 18446744073709551616) : Int), Value.int .u64 ((q % 18446744073709551616) : Int), Value.int .u64 (0 : Int)]).run Try.prog w = .ok (.value (.tuple #[Value.int .u64 ((((p % 18446744073709551616) + (q % 18446744073709551616)) % 18446744073709551616) : Int), Value.int .u64 ((((p % 18446744073709551616) + (q % 18446744073709551616)) / 18446744073709551616) : Int)])) w)) (l' := [(2, rV 0 0), (3, rV 1 0), (4, rV 2 0), (5, .e (.c (.d (D.lit (.int .u64 (((p % 18446744073709551616) + (q % 18446744073709551616)) % 18446744073709551616)))))), (6, .e (.c (.d (D.lit (.int .u64 (((p % 18446744073709551616) + (q % 18446744073709551616)) / 18446744073709551616))))))]) (g' := [(0, some (76, .ds [iD (p / 18446744073709551616), D.lit (.int .u64 (p % 18446744073709551616))])), (1, some (76, .ds [iD (q / 18446744073709551616), D.lit (.int .u64 (q % 18446744073709551616))])), (2, some (76, .ds [iD 0, D.lit (.int .u64 0)]))]) (nx' := 3) (by kernel_rfl) ⟨rfl, rfl, (fun w => ext_add64 (by omega) (by omega) w)⟩ ?_
  refine AW.rgs [.no, .no, .no, .no, .w, .no, .w, .w, .no, .no, .no] [4] [2] (P := ((-9223372036854775808) ≤ ((p / 18446744073709551616) + (q / 18446744073709551616)) ∧ ((p / 18446744073709551616) + (q / 18446744073709551616)) ≤ 9223372036854775807) ∧ ((-9223372036854775808) ≤ (((p % 18446744073709551616) + (q % 18446744073709551616)) / 18446744073709551616) ∧ (((p % 18446744073709551616) + (q % 18446744073709551616)) / 18446744073709551616) ≤ 9223372036854775807) ∧ ((-9223372036854775808) ≤ (((p / 18446744073709551616) + (q / 18446744073709551616)) + (((p % 18446744073709551616) + (q % 18446744073709551616)) / 18446744073709551616)) ∧ (((p / 18446744073709551616) + (q / 18446744073709551616)) + (((p % 18446744073709551616) + (q % 18446744073709551616)) / 18446744073709551616)) ≤ 9223372036854775807)) (l' := [(4, rV 2 0)]) (g' := [(2, some (76, .ds [iD (((p / 18446744073709551616) + (q / 18446744073709551616)) + (((p % 18446744073709551616) + (q % 18446744073709551616)) / 18446744073709551616)), D.lit (.int .u64 (((p % 18446744073709551616) + (q % 18446744073709551616)) % 18446744073709551616))]))]) (nx' := 3) (by kernel_rfl) ⟨⟨by omega, by omega⟩, ⟨by omega, by omega⟩, ⟨by omega, by omega⟩⟩ ?_
  refine AW.ret ?_
  exact EndP.of (.inr rfl) [] (P := ((((p + q) / 18446744073709551616) : Int) = (((p / 18446744073709551616) + (q / 18446744073709551616)) + (((p % 18446744073709551616) + (q % 18446744073709551616)) / 18446744073709551616))) ∧ ((((p + q) % 18446744073709551616) : Int) = (((p % 18446744073709551616) + (q % 18446744073709551616)) % 18446744073709551616))) (by kernel_rfl) ⟨(by first | rfl | omega), (by first | rfl | omega)⟩

set_option maxHeartbeats 4000000 in
set_option maxRecDepth 100000 in
theorem W_Sub (p q : Int) (hp : -42535295865117307932921825928971026432 ≤ p ∧ p ≤ 42535295865117307932921825928971026432) (hq : -42535295865117307932921825928971026432 ≤ q ∧ q ≤ 42535295865117307932921825928971026432) : Fun 59 [.agg [iC (p / 18446744073709551616), .d (D.lit (.int .u64 (p % 18446744073709551616)))], .agg [iC (q / 18446744073709551616), .d (D.lit (.int .u64 (q % 18446744073709551616)))]] (toG []) 0 (.e (.agg [iC ((p - q) / 18446744073709551616), .d (D.lit (.int .u64 ((p - q) % 18446744073709551616)))])) (toG []) 0 := by
  refine Fun.mk (n := 25) Try.func59 rfl rfl (Nat.le_of_ble_eq_true rfl) ?_
  intro cx hcx
  refine AW.rgs [.no, .no, .no] [2, 3, 4] [0, 1, 2] (P := True) (l' := [(2, rV 0 0), (3, rV 1 0), (4, rV 2 0)]) (g' := [(0, some (76, .ds [iD (p / 18446744073709551616), D.lit (.int .u64 (p % 18446744073709551616))])), (1, some (76, .ds [iD (q / 18446744073709551616), D.lit (.int .u64 (q % 18446744073709551616))])), (2, some (76, .ds [iD 0, D.lit (.int .u64 0)]))]) (nx' := 3) (by kernel_rfl) trivial ?_
  refine AW.rgs [.no, .no, .no, .no, .ds [D.lit (.int .u64 (((p % 18446744073709551616) - (q % 18446744073709551616)) % 18446744073709551616)), D.lit (.int .u64 (0 - (((p % 18446744073709551616) - (q % 18446744073709551616)) / 18446744073709551616)))], .no, .no, .no, .no, .no] [2, 3, 4, 5, 6] [0, 1, 2] (P := ((Value.int .u64 ((((p % 18446744073709551616) - (q % 18446744073709551616)) % 18446744073709551616) : Int)).oneCell' = true) ∧ ((Value.int .u64 ((0 - (((p % 18446744073709551616) - (q % 18446744073709551616)) / 18446744073709551616)) : Int)).oneCell' = true) ∧ (∀ w : World, (callFunc 65 #[Value.int .u64 ((p % 18446744073709551616) : Int), Value.int .u64 ((q % 18446744073709551616) : Int), Value.int .u64 (0 : Int)]).run Try.prog w = .ok (.value (.tuple #[Value.int .u64 ((((p % 18446744073709551616) - (q % 18446744073709551616)) % 18446744073709551616) : Int), Value.int .u64 ((0 - (((p % 18446744073709551616) - (q % 18446744073709551616)) / 18446744073709551616)) : Int)])) w)) (l' := [(2, rV 0 0), (3, rV 1 0), (4, rV 2 0), (5, .e (.c (.d (D.lit (.int .u64 (((p % 18446744073709551616) - (q % 18446744073709551616)) % 18446744073709551616)))))), (6, .e (.c (.d (D.lit (.int .u64 (0 - (((p % 18446744073709551616) - (q % 18446744073709551616)) / 18446744073709551616)))))))]) (g' := [(0, some (76, .ds [iD (p / 18446744073709551616), D.lit (.int .u64 (p % 18446744073709551616))])), (1, some (76, .ds [iD (q / 18446744073709551616), D.lit (.int .u64 (q % 18446744073709551616))])), (2, some (76, .ds [iD 0, D.lit (.int .u64 0)]))]) (nx' := 3) (by kernel_rfl) ⟨rfl, rfl, (fun w => ext_sub64 (by omega) (by omega) w)⟩ ?_
  refine AW.rgs [.no, .no, .no, .no, .w, .no, .w, .w, .no, .no, .no] [4] [2] (P := ((-9223372036854775808) ≤ ((p / 18446744073709551616) - (q / 18446744073709551616)) ∧ ((p / 18446744073709551616) - (q / 18446744073709551616)) ≤ 9223372036854775807) ∧ ((-9223372036854775808) ≤ (0 - (((p % 18446744073709551616) - (q % 18446744073709551616)) / 18446744073709551616)) ∧ (0 - (((p % 18446744073709551616) - (q % 18446744073709551616)) / 18446744073709551616)) ≤ 9223372036854775807) ∧ ((-9223372036854775808) ≤ (((p / 18446744073709551616) - (q / 18446744073709551616)) - (0 - (((p % 18446744073709551616) - (q % 18446744073709551616)) / 18446744073709551616))) ∧ (((p / 18446744073709551616) - (q / 18446744073709551616)) - (0 - (((p % 18446744073709551616) - (q % 18446744073709551616)) / 18446744073709551616))) ≤ 9223372036854775807)) (l' := [(4, rV 2 0)]) (g' := [(2, some (76, .ds [iD (((p / 18446744073709551616) - (q / 18446744073709551616)) - (0 - (((p % 18446744073709551616) - (q % 18446744073709551616)) / 18446744073709551616))), D.lit (.int .u64 (((p % 18446744073709551616) - (q % 18446744073709551616)) % 18446744073709551616))]))]) (nx' := 3) (by kernel_rfl) ⟨⟨by omega, by omega⟩, ⟨by omega, by omega⟩, ⟨by omega, by omega⟩⟩ ?_
  refine AW.ret ?_
  exact EndP.of (.inr rfl) [] (P := ((((p - q) / 18446744073709551616) : Int) = (((p / 18446744073709551616) - (q / 18446744073709551616)) - (0 - (((p % 18446744073709551616) - (q % 18446744073709551616)) / 18446744073709551616)))) ∧ ((((p - q) % 18446744073709551616) : Int) = (((p % 18446744073709551616) - (q % 18446744073709551616)) % 18446744073709551616))) (by kernel_rfl) ⟨(by first | rfl | omega), (by first | rfl | omega)⟩

set_option maxHeartbeats 4000000 in
set_option maxRecDepth 100000 in
theorem W_Cmp (p q : Int) (hp : -42535295865117307932921825928971026432 ≤ p ∧ p ≤ 42535295865117307932921825928971026432) (hq : -42535295865117307932921825928971026432 ≤ q ∧ q ≤ 42535295865117307932921825928971026432) : Fun 60 [.agg [iC (p / 18446744073709551616), .d (D.lit (.int .u64 (p % 18446744073709551616)))], .agg [iC (q / 18446744073709551616), .d (D.lit (.int .u64 (q % 18446744073709551616)))]] (toG []) 0 (iV (cmpV p q)) (toG []) 0 := by
  have hcv : (cmpV p q = 0 - 1 ∧ p < q) ∨ (cmpV p q = 0 ∧ p = q) ∨ (cmpV p q = 1 ∧ q < p) := cmpV_in _ _
  refine Fun.mk (n := 29) Try.func60 rfl rfl (Nat.le_of_ble_eq_true rfl) ?_
  intro cx hcx
  refine AW.rgs [.no, .no, .no] [2, 3] [0, 1] (P := True) (l' := [(2, rV 0 0), (3, rV 1 0)]) (g' := [(0, some (76, .ds [iD (p / 18446744073709551616), D.lit (.int .u64 (p % 18446744073709551616))])), (1, some (76, .ds [iD (q / 18446744073709551616), D.lit (.int .u64 (q % 18446744073709551616))]))]) (nx' := 2) (by kernel_rfl) trivial ?_
  refine AW.seq ?_
  refine AW.block ?_
  by_cases hx1 : (((p / 18446744073709551616) = (q / 18446744073709551616)) ∧ ((p % 18446744073709551616) = (q % 18446744073709551616)))
  · refine AW.rgs [.no, .no, .b true, .no] [2, 3, 5] [0, 1] (P := ((((p / 18446744073709551616) = (q / 18446744073709551616)) ∧ ((p % 18446744073709551616) = (q % 18446744073709551616))))) (l' := [(2, rV 0 0), (3, rV 1 0), (5, bV true)]) (g' := [(0, some (76, .ds [iD (p / 18446744073709551616), D.lit (.int .u64 (p % 18446744073709551616))])), (1, some (76, .ds [iD (q / 18446744073709551616), D.lit (.int .u64 (q % 18446744073709551616))]))]) (nx' := 2) (by kernel_rfl) ⟨(by omega), (by omega)⟩ ?_
    refine AW.cond_t (.tmp (Look.of rfl)) ?_
    refine AW.rgs [.no] [4] [] (P := True) (l' := [(4, iV 0)]) (g' := []) (nx' := 2) (by kernel_rfl) trivial ?_
    refine AW.ret ?_
    exact EndP.of (.inr rfl) [] (P := (((cmpV p q) : Int) = 0)) (by kernel_rfl) (by first | rfl | omega)
  · refine AW.rgs [.no, .no, .b false, .no] [2, 3, 5] [0, 1] (P := (¬ (((p / 18446744073709551616) = (q / 18446744073709551616)) ∧ ((p % 18446744073709551616) = (q % 18446744073709551616))))) (l' := [(2, rV 0 0), (3, rV 1 0), (5, bV false)]) (g' := [(0, some (76, .ds [iD (p / 18446744073709551616), D.lit (.int .u64 (p % 18446744073709551616))])), (1, some (76, .ds [iD (q / 18446744073709551616), D.lit (.int .u64 (q % 18446744073709551616))]))]) (nx' := 2) (by kernel_rfl) (by omega) ?_
    refine AW.cond_f (.tmp (Look.of rfl)) ?_
    by_cases hx2 : ((p / 18446744073709551616) < (q / 18446744073709551616))
    · refine AW.rgs [.no, .no, .no, .no, .b true, .no, .no, .no] [9] [] (P := (((p / 18446744073709551616) < (q / 18446744073709551616)))) (l' := [(9, bV true)]) (g' := []) (nx' := 2) (by kernel_rfl) (by omega) ?_
      refine AW.cond_t (.tmp (Look.of rfl)) ?_
      refine AW.rgs [.no] [4] [] (P := True) (l' := [(4, iV (-1))]) (g' := []) (nx' := 2) (by kernel_rfl) trivial ?_
      refine AW.ret ?_
      exact EndP.of (.inr rfl) [] (P := (((cmpV p q) : Int) = (-1))) (by kernel_rfl) (by first | rfl | omega)
    · by_cases hx3 : ((p / 18446744073709551616) = (q / 18446744073709551616))
      · by_cases hx4 : ((p % 18446744073709551616) < (q % 18446744073709551616))
        · refine AW.rgs [.no, .no, .no, .no, .b false, .no, .no, .no, .no, .no, .b true, .no, .no, .no, .no, .no, .b true, .no, .no, .no] [9] [] (P := (¬ ((p / 18446744073709551616) < (q / 18446744073709551616))) ∧ (((p / 18446744073709551616) = (q / 18446744073709551616))) ∧ (((p % 18446744073709551616) < (q % 18446744073709551616)))) (l' := [(9, bV true)]) (g' := []) (nx' := 2) (by kernel_rfl) ⟨(by omega), (by omega), (by omega)⟩ ?_
          refine AW.cond_t (.tmp (Look.of rfl)) ?_
          refine AW.rgs [.no] [4] [] (P := True) (l' := [(4, iV (-1))]) (g' := []) (nx' := 2) (by kernel_rfl) trivial ?_
          refine AW.ret ?_
          exact EndP.of (.inr rfl) [] (P := (((cmpV p q) : Int) = (-1))) (by kernel_rfl) (by first | rfl | omega)
        · refine AW.rgs [.no, .no, .no, .no, .b false, .no, .no, .no, .no, .no, .b true, .no, .no, .no, .no, .no, .b false, .no, .no, .no] [9] [] (P := (¬ ((p / 18446744073709551616) < (q / 18446744073709551616))) ∧ (((p / 18446744073709551616) = (q / 18446744073709551616))) ∧ (¬ ((p % 18446744073709551616) < (q % 18446744073709551616)))) (l' := [(9, bV false)]) (g' := []) (nx' := 2) (by kernel_rfl) ⟨(by omega), (by omega), (by omega)⟩ ?_
          refine AW.cond_f (.tmp (Look.of rfl)) ?_
          refine AW.skip ?_
          refine AW.rgs [.no] [4] [] (P := True) (l' := [(4, iV 1)]) (g' := []) (nx' := 2) (by kernel_rfl) trivial ?_
          refine AW.ret ?_
          exact EndP.of (.inr rfl) [] (P := (((cmpV p q) : Int) = 1)) (by kernel_rfl) (by first | rfl | omega)
      · refine AW.rgs [.no, .no, .no, .no, .b false, .no, .no, .no, .no, .no, .b false, .no, .no, .no, .no] [9] [] (P := (¬ ((p / 18446744073709551616) < (q / 18446744073709551616))) ∧ (¬ ((p / 18446744073709551616) = (q / 18446744073709551616)))) (l' := [(9, bV false)]) (g' := []) (nx' := 2) (by kernel_rfl) ⟨(by omega), (by omega)⟩ ?_
        refine AW.cond_f (.tmp (Look.of rfl)) ?_
        refine AW.skip ?_
        refine AW.rgs [.no] [4] [] (P := True) (l' := [(4, iV 1)]) (g' := []) (nx' := 2) (by kernel_rfl) trivial ?_
        refine AW.ret ?_
        exact EndP.of (.inr rfl) [] (P := (((cmpV p q) : Int) = 1)) (by kernel_rfl) (by first | rfl | omega)

set_option maxHeartbeats 4000000 in
set_option maxRecDepth 100000 in
theorem W_Times (p n : Int) (hn : 0 ≤ n ∧ n ≤ 1152921504606846976) (hp : -21267647932558653966460912964485513216 ≤ p ∧ p ≤ 21267647932558653966460912964485513216) (hpn : -21267647932558653966460912964485513216 ≤ p * n ∧ p * n ≤ 21267647932558653966460912964485513216) : Fun 42 [.agg [iC (p / 18446744073709551616), .d (D.lit (.int .u64 (p % 18446744073709551616)))], iE n] (toG []) 0 (.e (.agg [iC ((p * n) / 18446744073709551616), .d (D.lit (.int .u64 ((p * n) % 18446744073709551616)))])) (toG []) 0 := by
  have hpm : p * n = (p / 18446744073709551616) * n * 18446744073709551616 + (p % 18446744073709551616) * n ∧ 0 ≤ (p % 18446744073709551616) * n ∧ (p % 18446744073709551616) * n ≤ 21267647932558653966460912964485513216 := wide_mul hn
  refine Fun.mk (n := 30) Try.func42 rfl rfl (Nat.le_of_ble_eq_true rfl) ?_
  intro cx hcx
  refine AW.rgs [.no, .no] [1, 2, 4] [0, 1] (P := True) (l' := [(1, iV n), (2, rV 0 0), (4, rV 1 0)]) (g' := [(0, some (76, .ds [iD (p / 18446744073709551616), D.lit (.int .u64 (p % 18446744073709551616))])), (1, some (76, .ds [iD 0, D.lit (.int .u64 0)]))]) (nx' := 2) (by kernel_rfl) trivial ?_
  refine AW.rgs [.no, .no, .no, .w, .call [] (.tup [.c (.d (D.lit (.int .u64 (((p % 18446744073709551616) * n) / 18446744073709551616)))), .c (.d (D.lit (.int .u64 (((p % 18446744073709551616) * n) % 18446744073709551616))))]) [] 0 [] none, .no, .no, .no, .no, .no] [1, 2, 4, 5, 6] [0, 1] (P := (0 ≤ n ∧ n ≤ 18446744073709551615) ∧ (_)) (l' := [(1, iV n), (2, rV 0 0), (4, rV 1 0), (5, .e (.c (.d (D.lit (.int .u64 (((p % 18446744073709551616) * n) / 18446744073709551616)))))), (6, .e (.c (.d (D.lit (.int .u64 (((p % 18446744073709551616) * n) % 18446744073709551616))))))]) (g' := [(0, some (76, .ds [iD (p / 18446744073709551616), D.lit (.int .u64 (p % 18446744073709551616))])), (1, some (76, .ds [iD 0, D.lit (.int .u64 0)]))]) (nx' := 2) (by kernel_rfl) ⟨⟨by omega, by omega⟩, (B_Mul64 (p % 18446744073709551616) n (by omega) (by omega))⟩ ?_
  refine AW.seq ?_
  refine AW.rgs [.no, .b false] [1, 2, 4, 5, 6, 16] [0, 1] (P := (¬ (n < 0))) (l' := [(1, iV n), (2, rV 0 0), (4, rV 1 0), (5, .e (.c (.d (D.lit (.int .u64 (((p % 18446744073709551616) * n) / 18446744073709551616)))))), (6, .e (.c (.d (D.lit (.int .u64 (((p % 18446744073709551616) * n) % 18446744073709551616)))))), (16, bV false)]) (g' := [(0, some (76, .ds [iD (p / 18446744073709551616), D.lit (.int .u64 (p % 18446744073709551616))])), (1, some (76, .ds [iD 0, D.lit (.int .u64 0)]))]) (nx' := 2) (by kernel_rfl) (by omega) ?_
  refine AW.cond_f (.tmp (Look.of rfl)) ?_
  refine AW.skip ?_
  refine AW.rgs [.no, .w, .no, .no, .no, .w, .w, .no, .no, .no] [4] [1] (P := ((-9223372036854775808) ≤ (((p % 18446744073709551616) * n) / 18446744073709551616) ∧ (((p % 18446744073709551616) * n) / 18446744073709551616) ≤ 9223372036854775807) ∧ ((-9223372036854775808) ≤ ((p / 18446744073709551616) * n) ∧ ((p / 18446744073709551616) * n) ≤ 9223372036854775807) ∧ ((-9223372036854775808) ≤ ((((p % 18446744073709551616) * n) / 18446744073709551616) + ((p / 18446744073709551616) * n)) ∧ ((((p % 18446744073709551616) * n) / 18446744073709551616) + ((p / 18446744073709551616) * n)) ≤ 9223372036854775807)) (l' := [(4, rV 1 0)]) (g' := [(1, some (76, .ds [iD ((((p % 18446744073709551616) * n) / 18446744073709551616) + ((p / 18446744073709551616) * n)), D.lit (.int .u64 (((p % 18446744073709551616) * n) % 18446744073709551616))]))]) (nx' := 2) (by kernel_rfl) ⟨⟨by omega, by omega⟩, ⟨by omega, by omega⟩, ⟨by omega, by omega⟩⟩ ?_
  refine AW.ret ?_
  exact EndP.of (.inr rfl) [] (P := ((((p * n) / 18446744073709551616) : Int) = ((((p % 18446744073709551616) * n) / 18446744073709551616) + ((p / 18446744073709551616) * n))) ∧ ((((p * n) % 18446744073709551616) : Int) = (((p % 18446744073709551616) * n) % 18446744073709551616))) (by kernel_rfl) ⟨(by first | rfl | omega), (by first | rfl | omega)⟩

end Go.Proofs.Yteggelophhpnfaa
