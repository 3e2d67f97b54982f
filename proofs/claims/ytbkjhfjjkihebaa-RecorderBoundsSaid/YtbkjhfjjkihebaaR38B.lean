/- Recorders. No statement is proved here. -/
import Derived.Test.YtbkjhfjjkihebaaR38A
namespace Go.Proofs.Ytbkjhfjjkihebaa
open Go.ChangeShapes Go.WideShapes Go.ChangeAt Go.RowKit
set_option linter.unusedVariables false
set_option linter.unusedSimpArgs false

set_option maxHeartbeats 4000000 in
set_option maxRecDepth 100000 in
theorem R_ms0 (li b0 b1 b2 b3 b4 b5 b6 b7 b8 b9 b10 b11 b12 b13 b14 b15 b16 b17 b18 b19 b20 b21 b22 b23 v : Int) (hli : 1 ≤ li ∧ li ≤ 256) (hB : bkOk [b0, b1, b2, b3, b4, b5, b6, b7, b8, b9, b10, b11, b12, b13, b14, b15, b16, b17, b18, b19, b20, b21, b22, b23]) (hv : 0 ≤ v ∧ v < 4194304) (hk : lnB v = 0) : Fun 6 [.agg [iC li, .d (D.lit (.slice none 0 0)), iC 0, iC 0, iC 0, iC 0, iC 0, iC 0, iC b0, iC b1, iC b2, iC b3, iC b4, iC b5, iC b6, iC b7, iC b8, iC b9, iC b10, iC b11, iC b12, iC b13, iC b14, iC b15, iC b16, iC b17, iC b18, iC b19, iC b20, iC b21, iC b22, iC b23], iE v] (toG []) 0 (.tup [.agg [iC li, .d (D.lit (.slice none 0 0)), iC 0, iC 0, iC 0, iC 0, iC 0, iC 0, iC (b0 + 1), iC b1, iC b2, iC b3, iC b4, iC b5, iC b6, iC b7, iC b8, iC b9, iC b10, iC b11, iC b12, iC b13, iC b14, iC b15, iC b16, iC b17, iC b18, iC b19, iC b20, iC b21, iC b22, iC b23], iE 0]) (toG []) 0 := by
  have hb0 : 0 ≤ b0 ∧ b0 ≤ 1000 := hB 0 (by omega)
  have hb1 : 0 ≤ b1 ∧ b1 ≤ 1000 := hB 1 (by omega)
  have hb2 : 0 ≤ b2 ∧ b2 ≤ 1000 := hB 2 (by omega)
  have hb3 : 0 ≤ b3 ∧ b3 ≤ 1000 := hB 3 (by omega)
  have hb4 : 0 ≤ b4 ∧ b4 ≤ 1000 := hB 4 (by omega)
  have hb5 : 0 ≤ b5 ∧ b5 ≤ 1000 := hB 5 (by omega)
  have hb6 : 0 ≤ b6 ∧ b6 ≤ 1000 := hB 6 (by omega)
  have hb7 : 0 ≤ b7 ∧ b7 ≤ 1000 := hB 7 (by omega)
  have hb8 : 0 ≤ b8 ∧ b8 ≤ 1000 := hB 8 (by omega)
  have hb9 : 0 ≤ b9 ∧ b9 ≤ 1000 := hB 9 (by omega)
  have hb10 : 0 ≤ b10 ∧ b10 ≤ 1000 := hB 10 (by omega)
  have hb11 : 0 ≤ b11 ∧ b11 ≤ 1000 := hB 11 (by omega)
  have hb12 : 0 ≤ b12 ∧ b12 ≤ 1000 := hB 12 (by omega)
  have hb13 : 0 ≤ b13 ∧ b13 ≤ 1000 := hB 13 (by omega)
  have hb14 : 0 ≤ b14 ∧ b14 ≤ 1000 := hB 14 (by omega)
  have hb15 : 0 ≤ b15 ∧ b15 ≤ 1000 := hB 15 (by omega)
  have hb16 : 0 ≤ b16 ∧ b16 ≤ 1000 := hB 16 (by omega)
  have hb17 : 0 ≤ b17 ∧ b17 ≤ 1000 := hB 17 (by omega)
  have hb18 : 0 ≤ b18 ∧ b18 ≤ 1000 := hB 18 (by omega)
  have hb19 : 0 ≤ b19 ∧ b19 ≤ 1000 := hB 19 (by omega)
  have hb20 : 0 ≤ b20 ∧ b20 ≤ 1000 := hB 20 (by omega)
  have hb21 : 0 ≤ b21 ∧ b21 ≤ 1000 := hB 21 (by omega)
  have hb22 : 0 ≤ b22 ∧ b22 ≤ 1000 := hB 22 (by omega)
  have hb23 : 0 ≤ b23 ∧ b23 ≤ 1000 := hB 23 (by omega)
  refine Fun.mk (n := 29) Try.func6 rfl rfl (Nat.le_of_ble_eq_true rfl) ?_
  intro cx hcx
  refine AW.rgs [.no, .no, .no] [1, 2, 4] [0, 1] (P := True) (l' := [(1, iV v), (2, rV 0 0), (4, rV 1 0)]) (g' := [(0, some (28, .ds [iD li, D.lit (.slice none 0 0), iD 0, iD 0, iD 0, iD 0, iD 0, iD 0, iD b0, iD b1, iD b2, iD b3, iD b4, iD b5, iD b6, iD b7, iD b8, iD b9, iD b10, iD b11, iD b12, iD b13, iD b14, iD b15, iD b16, iD b17, iD b18, iD b19, iD b20, iD b21, iD b22, iD b23])), (1, some (28, .ds [iD 0, D.lit (.slice none 0 0), iD 0, iD 0, iD 0, iD 0, iD 0, iD 0, iD 0, iD 0, iD 0, iD 0, iD 0, iD 0, iD 0, iD 0, iD 0, iD 0, iD 0, iD 0, iD 0, iD 0, iD 0, iD 0, iD 0, iD 0, iD 0, iD 0, iD 0, iD 0, iD 0, iD 0]))]) (nx' := 2) (by kernel_rfl) trivial ?_
  refine AW.seq ?_
  refine AW.rgs [.no, .call [] (bV true) [] 0 [some [D.lit (.bool true)]] none, .no] [1, 2, 4, 9] [0, 1] (P := (_)) (l' := [(1, iV v), (2, rV 0 0), (4, rV 1 0), (9, bV false)]) (g' := [(0, some (28, .ds [iD li, D.lit (.slice none 0 0), iD 0, iD 0, iD 0, iD 0, iD 0, iD 0, iD b0, iD b1, iD b2, iD b3, iD b4, iD b5, iD b6, iD b7, iD b8, iD b9, iD b10, iD b11, iD b12, iD b13, iD b14, iD b15, iD b16, iD b17, iD b18, iD b19, iD b20, iD b21, iD b22, iD b23])), (1, some (28, .ds [iD 0, D.lit (.slice none 0 0), iD 0, iD 0, iD 0, iD 0, iD 0, iD 0, iD 0, iD 0, iD 0, iD 0, iD 0, iD 0, iD 0, iD 0, iD 0, iD 0, iD 0, iD 0, iD 0, iD 0, iD 0, iD 0, iD 0, iD 0, iD 0, iD 0, iD 0, iD 0, iD 0, iD 0]))]) (nx' := 2) (by kernel_rfl) (R_val li b0 b1 b2 b3 b4 b5 b6 b7 b8 b9 b10 b11 b12 b13 b14 b15 b16 b17 b18 b19 b20 b21 b22 b23 (by omega) (by first | omega | with_reducible assumption | (simp <;> omega) | rfl | assumption)) ?_
  refine AW.cond_f (.tmp (Look.of rfl)) ?_
  refine AW.skip ?_
  refine AW.seq ?_
  refine AW.rgs [.no, .b false] [1, 2, 4, 12] [0, 1] (P := (¬ (v < 0))) (l' := [(1, iV v), (2, rV 0 0), (4, rV 1 0), (12, bV false)]) (g' := [(0, some (28, .ds [iD li, D.lit (.slice none 0 0), iD 0, iD 0, iD 0, iD 0, iD 0, iD 0, iD b0, iD b1, iD b2, iD b3, iD b4, iD b5, iD b6, iD b7, iD b8, iD b9, iD b10, iD b11, iD b12, iD b13, iD b14, iD b15, iD b16, iD b17, iD b18, iD b19, iD b20, iD b21, iD b22, iD b23])), (1, some (28, .ds [iD 0, D.lit (.slice none 0 0), iD 0, iD 0, iD 0, iD 0, iD 0, iD 0, iD 0, iD 0, iD 0, iD 0, iD 0, iD 0, iD 0, iD 0, iD 0, iD 0, iD 0, iD 0, iD 0, iD 0, iD 0, iD 0, iD 0, iD 0, iD 0, iD 0, iD 0, iD 0, iD 0, iD 0]))]) (nx' := 2) (by kernel_rfl) (by omega) ?_
  refine AW.cond_f (.tmp (Look.of rfl)) ?_
  refine AW.skip ?_
  refine AW.rgs [.no, .call [] (.e (.agg [iC li, .d (D.lit (.slice none 0 0)), iC 0, iC 0, iC 0, iC 0, iC 0, iC 0, iC b0, iC b1, iC b2, iC b3, iC b4, iC b5, iC b6, iC b7, iC b8, iC b9, iC b10, iC b11, iC b12, iC b13, iC b14, iC b15, iC b16, iC b17, iC b18, iC b19, iC b20, iC b21, iC b22, iC b23])) [] 0 [some [D.lit (.bool true)]] none, .no] [1, 2, 4] [0, 1] (P := (_)) (l' := [(1, iV v), (2, rV 0 0), (4, rV 1 0)]) (g' := [(0, some (28, .ds [iD li, D.lit (.slice none 0 0), iD 0, iD 0, iD 0, iD 0, iD 0, iD 0, iD b0, iD b1, iD b2, iD b3, iD b4, iD b5, iD b6, iD b7, iD b8, iD b9, iD b10, iD b11, iD b12, iD b13, iD b14, iD b15, iD b16, iD b17, iD b18, iD b19, iD b20, iD b21, iD b22, iD b23])), (1, some (28, .ds [iD 0, D.lit (.slice none 0 0), iD 0, iD 0, iD 0, iD 0, iD 0, iD 0, iD 0, iD 0, iD 0, iD 0, iD 0, iD 0, iD 0, iD 0, iD 0, iD 0, iD 0, iD 0, iD 0, iD 0, iD 0, iD 0, iD 0, iD 0, iD 0, iD 0, iD 0, iD 0, iD 0, iD 0]))]) (nx' := 2) (by kernel_rfl) (R_fr li b0 b1 b2 b3 b4 b5 b6 b7 b8 b9 b10 b11 b12 b13 b14 b15 b16 b17 b18 b19 b20 b21 b22 b23) ?_
  have hx1 : ((lnB v) ≤ 22) := (ln_22 ((by omega)))
  refine AW.rgs [.no, .w, .call [] (iV (((lnB v) : Nat) : Int)) [] 0 [] none, .no, .no] [2, 4, 6] [0, 1] (P := (0 ≤ v ∧ v ≤ 18446744073709551615) ∧ (_)) (l' := [(2, rV 0 0), (4, rV 1 0), (6, iV (min (((lnB v) : Nat) : Int) 23))]) (g' := [(0, some (28, .ds [iD li, D.lit (.slice none 0 0), iD 0, iD 0, iD 0, iD 0, iD 0, iD 0, iD b0, iD b1, iD b2, iD b3, iD b4, iD b5, iD b6, iD b7, iD b8, iD b9, iD b10, iD b11, iD b12, iD b13, iD b14, iD b15, iD b16, iD b17, iD b18, iD b19, iD b20, iD b21, iD b22, iD b23])), (1, some (28, .ds [iD 0, D.lit (.slice none 0 0), iD 0, iD 0, iD 0, iD 0, iD 0, iD 0, iD 0, iD 0, iD 0, iD 0, iD 0, iD 0, iD 0, iD 0, iD 0, iD 0, iD 0, iD 0, iD 0, iD 0, iD 0, iD 0, iD 0, iD 0, iD 0, iD 0, iD 0, iD 0, iD 0, iD 0]))]) (nx' := 2) (by kernel_rfl) ⟨⟨by omega, by omega⟩, (R_Len v (by omega))⟩ ?_
  refine AW.rgs [.no, .no, .no, .n2 0 8, .no, .call [] (iV (b0 + 1)) [] 0 [] none, .no, .n2 0 8, .no] [2, 4] [0, 1] (P := (((min (((lnB v) : Nat) : Int) 23) : Int) = 0) ∧ ((0 : Nat) < 24) ∧ ((8 : Nat) + 0 * 1 = 8) ∧ (_) ∧ (((min (((lnB v) : Nat) : Int) 23) : Int) = 0) ∧ ((0 : Nat) < 24) ∧ ((8 : Nat) + 0 * 1 = 8)) (l' := [(2, rV 0 0), (4, rV 1 0)]) (g' := [(0, some (28, .ds [iD li, D.lit (.slice none 0 0), iD 0, iD 0, iD 0, iD 0, iD 0, iD 0, iD (b0 + 1), iD b1, iD b2, iD b3, iD b4, iD b5, iD b6, iD b7, iD b8, iD b9, iD b10, iD b11, iD b12, iD b13, iD b14, iD b15, iD b16, iD b17, iD b18, iD b19, iD b20, iD b21, iD b22, iD b23])), (1, some (28, .ds [iD 0, D.lit (.slice none 0 0), iD 0, iD 0, iD 0, iD 0, iD 0, iD 0, iD 0, iD 0, iD 0, iD 0, iD 0, iD 0, iD 0, iD 0, iD 0, iD 0, iD 0, iD 0, iD 0, iD 0, iD 0, iD 0, iD 0, iD 0, iD 0, iD 0, iD 0, iD 0, iD 0, iD 0]))]) (nx' := 2) (by kernel_rfl) ⟨(by first | rfl | omega), (by omega), (by omega), (R_ctd b0 (by omega)), (by first | rfl | omega), (by omega), (by omega)⟩ ?_
  refine AW.rgs [.no, .no, .no] [4, 5] [1] (P := True) (l' := [(4, rV 1 0), (5, iV 0)]) (g' := [(1, some (28, .ds [iD li, D.lit (.slice none 0 0), iD 0, iD 0, iD 0, iD 0, iD 0, iD 0, iD (b0 + 1), iD b1, iD b2, iD b3, iD b4, iD b5, iD b6, iD b7, iD b8, iD b9, iD b10, iD b11, iD b12, iD b13, iD b14, iD b15, iD b16, iD b17, iD b18, iD b19, iD b20, iD b21, iD b22, iD b23]))]) (nx' := 2) (by kernel_rfl) trivial ?_
  refine AW.ret ?_
  exact EndP.of (.inr rfl) [] (P := ((li : Int) = li) ∧ ((.slice none 0 0 : Value) = .slice none 0 0) ∧ ((0 : Int) = 0) ∧ ((0 : Int) = 0) ∧ ((0 : Int) = 0) ∧ ((0 : Int) = 0) ∧ ((0 : Int) = 0) ∧ ((0 : Int) = 0) ∧ (((b0 + 1) : Int) = (b0 + 1)) ∧ ((b1 : Int) = b1) ∧ ((b2 : Int) = b2) ∧ ((b3 : Int) = b3) ∧ ((b4 : Int) = b4) ∧ ((b5 : Int) = b5) ∧ ((b6 : Int) = b6) ∧ ((b7 : Int) = b7) ∧ ((b8 : Int) = b8) ∧ ((b9 : Int) = b9) ∧ ((b10 : Int) = b10) ∧ ((b11 : Int) = b11) ∧ ((b12 : Int) = b12) ∧ ((b13 : Int) = b13) ∧ ((b14 : Int) = b14) ∧ ((b15 : Int) = b15) ∧ ((b16 : Int) = b16) ∧ ((b17 : Int) = b17) ∧ ((b18 : Int) = b18) ∧ ((b19 : Int) = b19) ∧ ((b20 : Int) = b20) ∧ ((b21 : Int) = b21) ∧ ((b22 : Int) = b22) ∧ ((b23 : Int) = b23) ∧ ((0 : Int) = 0)) (by kernel_rfl) ⟨rfl, rfl, rfl, rfl, rfl, rfl, rfl, rfl, rfl, rfl, rfl, rfl, rfl, rfl, rfl, rfl, rfl, rfl, rfl, rfl, rfl, rfl, rfl, rfl, rfl, rfl, rfl, rfl, rfl, rfl, rfl, rfl, rfl⟩

set_option maxHeartbeats 4000000 in
set_option maxRecDepth 100000 in
theorem R_ms1 (li b0 b1 b2 b3 b4 b5 b6 b7 b8 b9 b10 b11 b12 b13 b14 b15 b16 b17 b18 b19 b20 b21 b22 b23 v : Int) (hli : 1 ≤ li ∧ li ≤ 256) (hB : bkOk [b0, b1, b2, b3, b4, b5, b6, b7, b8, b9, b10, b11, b12, b13, b14, b15, b16, b17, b18, b19, b20, b21, b22, b23]) (hv : 0 ≤ v ∧ v < 4194304) (hk : lnB v = 1) : Fun 6 [.agg [iC li, .d (D.lit (.slice none 0 0)), iC 0, iC 0, iC 0, iC 0, iC 0, iC 0, iC b0, iC b1, iC b2, iC b3, iC b4, iC b5, iC b6, iC b7, iC b8, iC b9, iC b10, iC b11, iC b12, iC b13, iC b14, iC b15, iC b16, iC b17, iC b18, iC b19, iC b20, iC b21, iC b22, iC b23], iE v] (toG []) 0 (.tup [.agg [iC li, .d (D.lit (.slice none 0 0)), iC 0, iC 0, iC 0, iC 0, iC 0, iC 0, iC b0, iC (b1 + 1), iC b2, iC b3, iC b4, iC b5, iC b6, iC b7, iC b8, iC b9, iC b10, iC b11, iC b12, iC b13, iC b14, iC b15, iC b16, iC b17, iC b18, iC b19, iC b20, iC b21, iC b22, iC b23], iE 0]) (toG []) 0 := by
  have hb0 : 0 ≤ b0 ∧ b0 ≤ 1000 := hB 0 (by omega)
  have hb1 : 0 ≤ b1 ∧ b1 ≤ 1000 := hB 1 (by omega)
  have hb2 : 0 ≤ b2 ∧ b2 ≤ 1000 := hB 2 (by omega)
  have hb3 : 0 ≤ b3 ∧ b3 ≤ 1000 := hB 3 (by omega)
  have hb4 : 0 ≤ b4 ∧ b4 ≤ 1000 := hB 4 (by omega)
  have hb5 : 0 ≤ b5 ∧ b5 ≤ 1000 := hB 5 (by omega)
  have hb6 : 0 ≤ b6 ∧ b6 ≤ 1000 := hB 6 (by omega)
  have hb7 : 0 ≤ b7 ∧ b7 ≤ 1000 := hB 7 (by omega)
  have hb8 : 0 ≤ b8 ∧ b8 ≤ 1000 := hB 8 (by omega)
  have hb9 : 0 ≤ b9 ∧ b9 ≤ 1000 := hB 9 (by omega)
  have hb10 : 0 ≤ b10 ∧ b10 ≤ 1000 := hB 10 (by omega)
  have hb11 : 0 ≤ b11 ∧ b11 ≤ 1000 := hB 11 (by omega)
  have hb12 : 0 ≤ b12 ∧ b12 ≤ 1000 := hB 12 (by omega)
  have hb13 : 0 ≤ b13 ∧ b13 ≤ 1000 := hB 13 (by omega)
  have hb14 : 0 ≤ b14 ∧ b14 ≤ 1000 := hB 14 (by omega)
  have hb15 : 0 ≤ b15 ∧ b15 ≤ 1000 := hB 15 (by omega)
  have hb16 : 0 ≤ b16 ∧ b16 ≤ 1000 := hB 16 (by omega)
  have hb17 : 0 ≤ b17 ∧ b17 ≤ 1000 := hB 17 (by omega)
  have hb18 : 0 ≤ b18 ∧ b18 ≤ 1000 := hB 18 (by omega)
  have hb19 : 0 ≤ b19 ∧ b19 ≤ 1000 := hB 19 (by omega)
  have hb20 : 0 ≤ b20 ∧ b20 ≤ 1000 := hB 20 (by omega)
  have hb21 : 0 ≤ b21 ∧ b21 ≤ 1000 := hB 21 (by omega)
  have hb22 : 0 ≤ b22 ∧ b22 ≤ 1000 := hB 22 (by omega)
  have hb23 : 0 ≤ b23 ∧ b23 ≤ 1000 := hB 23 (by omega)
  refine Fun.mk (n := 29) Try.func6 rfl rfl (Nat.le_of_ble_eq_true rfl) ?_
  intro cx hcx
  refine AW.rgs [.no, .no, .no] [1, 2, 4] [0, 1] (P := True) (l' := [(1, iV v), (2, rV 0 0), (4, rV 1 0)]) (g' := [(0, some (28, .ds [iD li, D.lit (.slice none 0 0), iD 0, iD 0, iD 0, iD 0, iD 0, iD 0, iD b0, iD b1, iD b2, iD b3, iD b4, iD b5, iD b6, iD b7, iD b8, iD b9, iD b10, iD b11, iD b12, iD b13, iD b14, iD b15, iD b16, iD b17, iD b18, iD b19, iD b20, iD b21, iD b22, iD b23])), (1, some (28, .ds [iD 0, D.lit (.slice none 0 0), iD 0, iD 0, iD 0, iD 0, iD 0, iD 0, iD 0, iD 0, iD 0, iD 0, iD 0, iD 0, iD 0, iD 0, iD 0, iD 0, iD 0, iD 0, iD 0, iD 0, iD 0, iD 0, iD 0, iD 0, iD 0, iD 0, iD 0, iD 0, iD 0, iD 0]))]) (nx' := 2) (by kernel_rfl) trivial ?_
  refine AW.seq ?_
  refine AW.rgs [.no, .call [] (bV true) [] 0 [some [D.lit (.bool true)]] none, .no] [1, 2, 4, 9] [0, 1] (P := (_)) (l' := [(1, iV v), (2, rV 0 0), (4, rV 1 0), (9, bV false)]) (g' := [(0, some (28, .ds [iD li, D.lit (.slice none 0 0), iD 0, iD 0, iD 0, iD 0, iD 0, iD 0, iD b0, iD b1, iD b2, iD b3, iD b4, iD b5, iD b6, iD b7, iD b8, iD b9, iD b10, iD b11, iD b12, iD b13, iD b14, iD b15, iD b16, iD b17, iD b18, iD b19, iD b20, iD b21, iD b22, iD b23])), (1, some (28, .ds [iD 0, D.lit (.slice none 0 0), iD 0, iD 0, iD 0, iD 0, iD 0, iD 0, iD 0, iD 0, iD 0, iD 0, iD 0, iD 0, iD 0, iD 0, iD 0, iD 0, iD 0, iD 0, iD 0, iD 0, iD 0, iD 0, iD 0, iD 0, iD 0, iD 0, iD 0, iD 0, iD 0, iD 0]))]) (nx' := 2) (by kernel_rfl) (R_val li b0 b1 b2 b3 b4 b5 b6 b7 b8 b9 b10 b11 b12 b13 b14 b15 b16 b17 b18 b19 b20 b21 b22 b23 (by omega) (by first | omega | with_reducible assumption | (simp <;> omega) | rfl | assumption)) ?_
  refine AW.cond_f (.tmp (Look.of rfl)) ?_
  refine AW.skip ?_
  refine AW.seq ?_
  refine AW.rgs [.no, .b false] [1, 2, 4, 12] [0, 1] (P := (¬ (v < 0))) (l' := [(1, iV v), (2, rV 0 0), (4, rV 1 0), (12, bV false)]) (g' := [(0, some (28, .ds [iD li, D.lit (.slice none 0 0), iD 0, iD 0, iD 0, iD 0, iD 0, iD 0, iD b0, iD b1, iD b2, iD b3, iD b4, iD b5, iD b6, iD b7, iD b8, iD b9, iD b10, iD b11, iD b12, iD b13, iD b14, iD b15, iD b16, iD b17, iD b18, iD b19, iD b20, iD b21, iD b22, iD b23])), (1, some (28, .ds [iD 0, D.lit (.slice none 0 0), iD 0, iD 0, iD 0, iD 0, iD 0, iD 0, iD 0, iD 0, iD 0, iD 0, iD 0, iD 0, iD 0, iD 0, iD 0, iD 0, iD 0, iD 0, iD 0, iD 0, iD 0, iD 0, iD 0, iD 0, iD 0, iD 0, iD 0, iD 0, iD 0, iD 0]))]) (nx' := 2) (by kernel_rfl) (by omega) ?_
  refine AW.cond_f (.tmp (Look.of rfl)) ?_
  refine AW.skip ?_
  refine AW.rgs [.no, .call [] (.e (.agg [iC li, .d (D.lit (.slice none 0 0)), iC 0, iC 0, iC 0, iC 0, iC 0, iC 0, iC b0, iC b1, iC b2, iC b3, iC b4, iC b5, iC b6, iC b7, iC b8, iC b9, iC b10, iC b11, iC b12, iC b13, iC b14, iC b15, iC b16, iC b17, iC b18, iC b19, iC b20, iC b21, iC b22, iC b23])) [] 0 [some [D.lit (.bool true)]] none, .no] [1, 2, 4] [0, 1] (P := (_)) (l' := [(1, iV v), (2, rV 0 0), (4, rV 1 0)]) (g' := [(0, some (28, .ds [iD li, D.lit (.slice none 0 0), iD 0, iD 0, iD 0, iD 0, iD 0, iD 0, iD b0, iD b1, iD b2, iD b3, iD b4, iD b5, iD b6, iD b7, iD b8, iD b9, iD b10, iD b11, iD b12, iD b13, iD b14, iD b15, iD b16, iD b17, iD b18, iD b19, iD b20, iD b21, iD b22, iD b23])), (1, some (28, .ds [iD 0, D.lit (.slice none 0 0), iD 0, iD 0, iD 0, iD 0, iD 0, iD 0, iD 0, iD 0, iD 0, iD 0, iD 0, iD 0, iD 0, iD 0, iD 0, iD 0, iD 0, iD 0, iD 0, iD 0, iD 0, iD 0, iD 0, iD 0, iD 0, iD 0, iD 0, iD 0, iD 0, iD 0]))]) (nx' := 2) (by kernel_rfl) (R_fr li b0 b1 b2 b3 b4 b5 b6 b7 b8 b9 b10 b11 b12 b13 b14 b15 b16 b17 b18 b19 b20 b21 b22 b23) ?_
  have hx1 : ((lnB v) ≤ 22) := (ln_22 ((by omega)))
  refine AW.rgs [.no, .w, .call [] (iV (((lnB v) : Nat) : Int)) [] 0 [] none, .no, .no] [2, 4, 6] [0, 1] (P := (0 ≤ v ∧ v ≤ 18446744073709551615) ∧ (_)) (l' := [(2, rV 0 0), (4, rV 1 0), (6, iV (min (((lnB v) : Nat) : Int) 23))]) (g' := [(0, some (28, .ds [iD li, D.lit (.slice none 0 0), iD 0, iD 0, iD 0, iD 0, iD 0, iD 0, iD b0, iD b1, iD b2, iD b3, iD b4, iD b5, iD b6, iD b7, iD b8, iD b9, iD b10, iD b11, iD b12, iD b13, iD b14, iD b15, iD b16, iD b17, iD b18, iD b19, iD b20, iD b21, iD b22, iD b23])), (1, some (28, .ds [iD 0, D.lit (.slice none 0 0), iD 0, iD 0, iD 0, iD 0, iD 0, iD 0, iD 0, iD 0, iD 0, iD 0, iD 0, iD 0, iD 0, iD 0, iD 0, iD 0, iD 0, iD 0, iD 0, iD 0, iD 0, iD 0, iD 0, iD 0, iD 0, iD 0, iD 0, iD 0, iD 0, iD 0]))]) (nx' := 2) (by kernel_rfl) ⟨⟨by omega, by omega⟩, (R_Len v (by omega))⟩ ?_
  refine AW.rgs [.no, .no, .no, .n2 1 9, .no, .call [] (iV (b1 + 1)) [] 0 [] none, .no, .n2 1 9, .no] [2, 4] [0, 1] (P := (((min (((lnB v) : Nat) : Int) 23) : Int) = 1) ∧ ((1 : Nat) < 24) ∧ ((8 : Nat) + 1 * 1 = 9) ∧ (_) ∧ (((min (((lnB v) : Nat) : Int) 23) : Int) = 1) ∧ ((1 : Nat) < 24) ∧ ((8 : Nat) + 1 * 1 = 9)) (l' := [(2, rV 0 0), (4, rV 1 0)]) (g' := [(0, some (28, .ds [iD li, D.lit (.slice none 0 0), iD 0, iD 0, iD 0, iD 0, iD 0, iD 0, iD b0, iD (b1 + 1), iD b2, iD b3, iD b4, iD b5, iD b6, iD b7, iD b8, iD b9, iD b10, iD b11, iD b12, iD b13, iD b14, iD b15, iD b16, iD b17, iD b18, iD b19, iD b20, iD b21, iD b22, iD b23])), (1, some (28, .ds [iD 0, D.lit (.slice none 0 0), iD 0, iD 0, iD 0, iD 0, iD 0, iD 0, iD 0, iD 0, iD 0, iD 0, iD 0, iD 0, iD 0, iD 0, iD 0, iD 0, iD 0, iD 0, iD 0, iD 0, iD 0, iD 0, iD 0, iD 0, iD 0, iD 0, iD 0, iD 0, iD 0, iD 0]))]) (nx' := 2) (by kernel_rfl) ⟨(by first | rfl | omega), (by omega), (by omega), (R_ctd b1 (by omega)), (by first | rfl | omega), (by omega), (by omega)⟩ ?_
  refine AW.rgs [.no, .no, .no] [4, 5] [1] (P := True) (l' := [(4, rV 1 0), (5, iV 0)]) (g' := [(1, some (28, .ds [iD li, D.lit (.slice none 0 0), iD 0, iD 0, iD 0, iD 0, iD 0, iD 0, iD b0, iD (b1 + 1), iD b2, iD b3, iD b4, iD b5, iD b6, iD b7, iD b8, iD b9, iD b10, iD b11, iD b12, iD b13, iD b14, iD b15, iD b16, iD b17, iD b18, iD b19, iD b20, iD b21, iD b22, iD b23]))]) (nx' := 2) (by kernel_rfl) trivial ?_
  refine AW.ret ?_
  exact EndP.of (.inr rfl) [] (P := ((li : Int) = li) ∧ ((.slice none 0 0 : Value) = .slice none 0 0) ∧ ((0 : Int) = 0) ∧ ((0 : Int) = 0) ∧ ((0 : Int) = 0) ∧ ((0 : Int) = 0) ∧ ((0 : Int) = 0) ∧ ((0 : Int) = 0) ∧ ((b0 : Int) = b0) ∧ (((b1 + 1) : Int) = (b1 + 1)) ∧ ((b2 : Int) = b2) ∧ ((b3 : Int) = b3) ∧ ((b4 : Int) = b4) ∧ ((b5 : Int) = b5) ∧ ((b6 : Int) = b6) ∧ ((b7 : Int) = b7) ∧ ((b8 : Int) = b8) ∧ ((b9 : Int) = b9) ∧ ((b10 : Int) = b10) ∧ ((b11 : Int) = b11) ∧ ((b12 : Int) = b12) ∧ ((b13 : Int) = b13) ∧ ((b14 : Int) = b14) ∧ ((b15 : Int) = b15) ∧ ((b16 : Int) = b16) ∧ ((b17 : Int) = b17) ∧ ((b18 : Int) = b18) ∧ ((b19 : Int) = b19) ∧ ((b20 : Int) = b20) ∧ ((b21 : Int) = b21) ∧ ((b22 : Int) = b22) ∧ ((b23 : Int) = b23) ∧ ((0 : Int) = 0)) (by kernel_rfl) ⟨rfl, rfl, rfl, rfl, rfl, rfl, rfl, rfl, rfl, rfl, rfl, rfl, rfl, rfl, rfl, rfl, rfl, rfl, rfl, rfl, rfl, rfl, rfl, rfl, rfl, rfl, rfl, rfl, rfl, rfl, rfl, rfl, rfl⟩

set_option maxHeartbeats 4000000 in
set_option maxRecDepth 100000 in
theorem R_ms2 (li b0 b1 b2 b3 b4 b5 b6 b7 b8 b9 b10 b11 b12 b13 b14 b15 b16 b17 b18 b19 b20 b21 b22 b23 v : Int) (hli : 1 ≤ li ∧ li ≤ 256) (hB : bkOk [b0, b1, b2, b3, b4, b5, b6, b7, b8, b9, b10, b11, b12, b13, b14, b15, b16, b17, b18, b19, b20, b21, b22, b23]) (hv : 0 ≤ v ∧ v < 4194304) (hk : lnB v = 2) : Fun 6 [.agg [iC li, .d (D.lit (.slice none 0 0)), iC 0, iC 0, iC 0, iC 0, iC 0, iC 0, iC b0, iC b1, iC b2, iC b3, iC b4, iC b5, iC b6, iC b7, iC b8, iC b9, iC b10, iC b11, iC b12, iC b13, iC b14, iC b15, iC b16, iC b17, iC b18, iC b19, iC b20, iC b21, iC b22, iC b23], iE v] (toG []) 0 (.tup [.agg [iC li, .d (D.lit (.slice none 0 0)), iC 0, iC 0, iC 0, iC 0, iC 0, iC 0, iC b0, iC b1, iC (b2 + 1), iC b3, iC b4, iC b5, iC b6, iC b7, iC b8, iC b9, iC b10, iC b11, iC b12, iC b13, iC b14, iC b15, iC b16, iC b17, iC b18, iC b19, iC b20, iC b21, iC b22, iC b23], iE 0]) (toG []) 0 := by
  have hb0 : 0 ≤ b0 ∧ b0 ≤ 1000 := hB 0 (by omega)
  have hb1 : 0 ≤ b1 ∧ b1 ≤ 1000 := hB 1 (by omega)
  have hb2 : 0 ≤ b2 ∧ b2 ≤ 1000 := hB 2 (by omega)
  have hb3 : 0 ≤ b3 ∧ b3 ≤ 1000 := hB 3 (by omega)
  have hb4 : 0 ≤ b4 ∧ b4 ≤ 1000 := hB 4 (by omega)
  have hb5 : 0 ≤ b5 ∧ b5 ≤ 1000 := hB 5 (by omega)
  have hb6 : 0 ≤ b6 ∧ b6 ≤ 1000 := hB 6 (by omega)
  have hb7 : 0 ≤ b7 ∧ b7 ≤ 1000 := hB 7 (by omega)
  have hb8 : 0 ≤ b8 ∧ b8 ≤ 1000 := hB 8 (by omega)
  have hb9 : 0 ≤ b9 ∧ b9 ≤ 1000 := hB 9 (by omega)
  have hb10 : 0 ≤ b10 ∧ b10 ≤ 1000 := hB 10 (by omega)
  have hb11 : 0 ≤ b11 ∧ b11 ≤ 1000 := hB 11 (by omega)
  have hb12 : 0 ≤ b12 ∧ b12 ≤ 1000 := hB 12 (by omega)
  have hb13 : 0 ≤ b13 ∧ b13 ≤ 1000 := hB 13 (by omega)
  have hb14 : 0 ≤ b14 ∧ b14 ≤ 1000 := hB 14 (by omega)
  have hb15 : 0 ≤ b15 ∧ b15 ≤ 1000 := hB 15 (by omega)
  have hb16 : 0 ≤ b16 ∧ b16 ≤ 1000 := hB 16 (by omega)
  have hb17 : 0 ≤ b17 ∧ b17 ≤ 1000 := hB 17 (by omega)
  have hb18 : 0 ≤ b18 ∧ b18 ≤ 1000 := hB 18 (by omega)
  have hb19 : 0 ≤ b19 ∧ b19 ≤ 1000 := hB 19 (by omega)
  have hb20 : 0 ≤ b20 ∧ b20 ≤ 1000 := hB 20 (by omega)
  have hb21 : 0 ≤ b21 ∧ b21 ≤ 1000 := hB 21 (by omega)
  have hb22 : 0 ≤ b22 ∧ b22 ≤ 1000 := hB 22 (by omega)
  have hb23 : 0 ≤ b23 ∧ b23 ≤ 1000 := hB 23 (by omega)
  refine Fun.mk (n := 29) Try.func6 rfl rfl (Nat.le_of_ble_eq_true rfl) ?_
  intro cx hcx
  refine AW.rgs [.no, .no, .no] [1, 2, 4] [0, 1] (P := True) (l' := [(1, iV v), (2, rV 0 0), (4, rV 1 0)]) (g' := [(0, some (28, .ds [iD li, D.lit (.slice none 0 0), iD 0, iD 0, iD 0, iD 0, iD 0, iD 0, iD b0, iD b1, iD b2, iD b3, iD b4, iD b5, iD b6, iD b7, iD b8, iD b9, iD b10, iD b11, iD b12, iD b13, iD b14, iD b15, iD b16, iD b17, iD b18, iD b19, iD b20, iD b21, iD b22, iD b23])), (1, some (28, .ds [iD 0, D.lit (.slice none 0 0), iD 0, iD 0, iD 0, iD 0, iD 0, iD 0, iD 0, iD 0, iD 0, iD 0, iD 0, iD 0, iD 0, iD 0, iD 0, iD 0, iD 0, iD 0, iD 0, iD 0, iD 0, iD 0, iD 0, iD 0, iD 0, iD 0, iD 0, iD 0, iD 0, iD 0]))]) (nx' := 2) (by kernel_rfl) trivial ?_
  refine AW.seq ?_
  refine AW.rgs [.no, .call [] (bV true) [] 0 [some [D.lit (.bool true)]] none, .no] [1, 2, 4, 9] [0, 1] (P := (_)) (l' := [(1, iV v), (2, rV 0 0), (4, rV 1 0), (9, bV false)]) (g' := [(0, some (28, .ds [iD li, D.lit (.slice none 0 0), iD 0, iD 0, iD 0, iD 0, iD 0, iD 0, iD b0, iD b1, iD b2, iD b3, iD b4, iD b5, iD b6, iD b7, iD b8, iD b9, iD b10, iD b11, iD b12, iD b13, iD b14, iD b15, iD b16, iD b17, iD b18, iD b19, iD b20, iD b21, iD b22, iD b23])), (1, some (28, .ds [iD 0, D.lit (.slice none 0 0), iD 0, iD 0, iD 0, iD 0, iD 0, iD 0, iD 0, iD 0, iD 0, iD 0, iD 0, iD 0, iD 0, iD 0, iD 0, iD 0, iD 0, iD 0, iD 0, iD 0, iD 0, iD 0, iD 0, iD 0, iD 0, iD 0, iD 0, iD 0, iD 0, iD 0]))]) (nx' := 2) (by kernel_rfl) (R_val li b0 b1 b2 b3 b4 b5 b6 b7 b8 b9 b10 b11 b12 b13 b14 b15 b16 b17 b18 b19 b20 b21 b22 b23 (by omega) (by first | omega | with_reducible assumption | (simp <;> omega) | rfl | assumption)) ?_
  refine AW.cond_f (.tmp (Look.of rfl)) ?_
  refine AW.skip ?_
  refine AW.seq ?_
  refine AW.rgs [.no, .b false] [1, 2, 4, 12] [0, 1] (P := (¬ (v < 0))) (l' := [(1, iV v), (2, rV 0 0), (4, rV 1 0), (12, bV false)]) (g' := [(0, some (28, .ds [iD li, D.lit (.slice none 0 0), iD 0, iD 0, iD 0, iD 0, iD 0, iD 0, iD b0, iD b1, iD b2, iD b3, iD b4, iD b5, iD b6, iD b7, iD b8, iD b9, iD b10, iD b11, iD b12, iD b13, iD b14, iD b15, iD b16, iD b17, iD b18, iD b19, iD b20, iD b21, iD b22, iD b23])), (1, some (28, .ds [iD 0, D.lit (.slice none 0 0), iD 0, iD 0, iD 0, iD 0, iD 0, iD 0, iD 0, iD 0, iD 0, iD 0, iD 0, iD 0, iD 0, iD 0, iD 0, iD 0, iD 0, iD 0, iD 0, iD 0, iD 0, iD 0, iD 0, iD 0, iD 0, iD 0, iD 0, iD 0, iD 0, iD 0]))]) (nx' := 2) (by kernel_rfl) (by omega) ?_
  refine AW.cond_f (.tmp (Look.of rfl)) ?_
  refine AW.skip ?_
  refine AW.rgs [.no, .call [] (.e (.agg [iC li, .d (D.lit (.slice none 0 0)), iC 0, iC 0, iC 0, iC 0, iC 0, iC 0, iC b0, iC b1, iC b2, iC b3, iC b4, iC b5, iC b6, iC b7, iC b8, iC b9, iC b10, iC b11, iC b12, iC b13, iC b14, iC b15, iC b16, iC b17, iC b18, iC b19, iC b20, iC b21, iC b22, iC b23])) [] 0 [some [D.lit (.bool true)]] none, .no] [1, 2, 4] [0, 1] (P := (_)) (l' := [(1, iV v), (2, rV 0 0), (4, rV 1 0)]) (g' := [(0, some (28, .ds [iD li, D.lit (.slice none 0 0), iD 0, iD 0, iD 0, iD 0, iD 0, iD 0, iD b0, iD b1, iD b2, iD b3, iD b4, iD b5, iD b6, iD b7, iD b8, iD b9, iD b10, iD b11, iD b12, iD b13, iD b14, iD b15, iD b16, iD b17, iD b18, iD b19, iD b20, iD b21, iD b22, iD b23])), (1, some (28, .ds [iD 0, D.lit (.slice none 0 0), iD 0, iD 0, iD 0, iD 0, iD 0, iD 0, iD 0, iD 0, iD 0, iD 0, iD 0, iD 0, iD 0, iD 0, iD 0, iD 0, iD 0, iD 0, iD 0, iD 0, iD 0, iD 0, iD 0, iD 0, iD 0, iD 0, iD 0, iD 0, iD 0, iD 0]))]) (nx' := 2) (by kernel_rfl) (R_fr li b0 b1 b2 b3 b4 b5 b6 b7 b8 b9 b10 b11 b12 b13 b14 b15 b16 b17 b18 b19 b20 b21 b22 b23) ?_
  have hx1 : ((lnB v) ≤ 22) := (ln_22 ((by omega)))
  refine AW.rgs [.no, .w, .call [] (iV (((lnB v) : Nat) : Int)) [] 0 [] none, .no, .no] [2, 4, 6] [0, 1] (P := (0 ≤ v ∧ v ≤ 18446744073709551615) ∧ (_)) (l' := [(2, rV 0 0), (4, rV 1 0), (6, iV (min (((lnB v) : Nat) : Int) 23))]) (g' := [(0, some (28, .ds [iD li, D.lit (.slice none 0 0), iD 0, iD 0, iD 0, iD 0, iD 0, iD 0, iD b0, iD b1, iD b2, iD b3, iD b4, iD b5, iD b6, iD b7, iD b8, iD b9, iD b10, iD b11, iD b12, iD b13, iD b14, iD b15, iD b16, iD b17, iD b18, iD b19, iD b20, iD b21, iD b22, iD b23])), (1, some (28, .ds [iD 0, D.lit (.slice none 0 0), iD 0, iD 0, iD 0, iD 0, iD 0, iD 0, iD 0, iD 0, iD 0, iD 0, iD 0, iD 0, iD 0, iD 0, iD 0, iD 0, iD 0, iD 0, iD 0, iD 0, iD 0, iD 0, iD 0, iD 0, iD 0, iD 0, iD 0, iD 0, iD 0, iD 0]))]) (nx' := 2) (by kernel_rfl) ⟨⟨by omega, by omega⟩, (R_Len v (by omega))⟩ ?_
  refine AW.rgs [.no, .no, .no, .n2 2 10, .no, .call [] (iV (b2 + 1)) [] 0 [] none, .no, .n2 2 10, .no] [2, 4] [0, 1] (P := (((min (((lnB v) : Nat) : Int) 23) : Int) = 2) ∧ ((2 : Nat) < 24) ∧ ((8 : Nat) + 2 * 1 = 10) ∧ (_) ∧ (((min (((lnB v) : Nat) : Int) 23) : Int) = 2) ∧ ((2 : Nat) < 24) ∧ ((8 : Nat) + 2 * 1 = 10)) (l' := [(2, rV 0 0), (4, rV 1 0)]) (g' := [(0, some (28, .ds [iD li, D.lit (.slice none 0 0), iD 0, iD 0, iD 0, iD 0, iD 0, iD 0, iD b0, iD b1, iD (b2 + 1), iD b3, iD b4, iD b5, iD b6, iD b7, iD b8, iD b9, iD b10, iD b11, iD b12, iD b13, iD b14, iD b15, iD b16, iD b17, iD b18, iD b19, iD b20, iD b21, iD b22, iD b23])), (1, some (28, .ds [iD 0, D.lit (.slice none 0 0), iD 0, iD 0, iD 0, iD 0, iD 0, iD 0, iD 0, iD 0, iD 0, iD 0, iD 0, iD 0, iD 0, iD 0, iD 0, iD 0, iD 0, iD 0, iD 0, iD 0, iD 0, iD 0, iD 0, iD 0, iD 0, iD 0, iD 0, iD 0, iD 0, iD 0]))]) (nx' := 2) (by kernel_rfl) ⟨(by first | rfl | omega), (by omega), (by omega), (R_ctd b2 (by omega)), (by first | rfl | omega), (by omega), (by omega)⟩ ?_
  refine AW.rgs [.no, .no, .no] [4, 5] [1] (P := True) (l' := [(4, rV 1 0), (5, iV 0)]) (g' := [(1, some (28, .ds [iD li, D.lit (.slice none 0 0), iD 0, iD 0, iD 0, iD 0, iD 0, iD 0, iD b0, iD b1, iD (b2 + 1), iD b3, iD b4, iD b5, iD b6, iD b7, iD b8, iD b9, iD b10, iD b11, iD b12, iD b13, iD b14, iD b15, iD b16, iD b17, iD b18, iD b19, iD b20, iD b21, iD b22, iD b23]))]) (nx' := 2) (by kernel_rfl) trivial ?_
  refine AW.ret ?_
  exact EndP.of (.inr rfl) [] (P := ((li : Int) = li) ∧ ((.slice none 0 0 : Value) = .slice none 0 0) ∧ ((0 : Int) = 0) ∧ ((0 : Int) = 0) ∧ ((0 : Int) = 0) ∧ ((0 : Int) = 0) ∧ ((0 : Int) = 0) ∧ ((0 : Int) = 0) ∧ ((b0 : Int) = b0) ∧ ((b1 : Int) = b1) ∧ (((b2 + 1) : Int) = (b2 + 1)) ∧ ((b3 : Int) = b3) ∧ ((b4 : Int) = b4) ∧ ((b5 : Int) = b5) ∧ ((b6 : Int) = b6) ∧ ((b7 : Int) = b7) ∧ ((b8 : Int) = b8) ∧ ((b9 : Int) = b9) ∧ ((b10 : Int) = b10) ∧ ((b11 : Int) = b11) ∧ ((b12 : Int) = b12) ∧ ((b13 : Int) = b13) ∧ ((b14 : Int) = b14) ∧ ((b15 : Int) = b15) ∧ ((b16 : Int) = b16) ∧ ((b17 : Int) = b17) ∧ ((b18 : Int) = b18) ∧ ((b19 : Int) = b19) ∧ ((b20 : Int) = b20) ∧ ((b21 : Int) = b21) ∧ ((b22 : Int) = b22) ∧ ((b23 : Int) = b23) ∧ ((0 : Int) = 0)) (by kernel_rfl) ⟨rfl, rfl, rfl, rfl, rfl, rfl, rfl, rfl, rfl, rfl, rfl, rfl, rfl, rfl, rfl, rfl, rfl, rfl, rfl, rfl, rfl, rfl, rfl, rfl, rfl, rfl, rfl, rfl, rfl, rfl, rfl, rfl, rfl⟩

set_option maxHeartbeats 4000000 in
set_option maxRecDepth 100000 in
theorem R_ms3 (li b0 b1 b2 b3 b4 b5 b6 b7 b8 b9 b10 b11 b12 b13 b14 b15 b16 b17 b18 b19 b20 b21 b22 b23 v : Int) (hli : 1 ≤ li ∧ li ≤ 256) (hB : bkOk [b0, b1, b2, b3, b4, b5, b6, b7, b8, b9, b10, b11, b12, b13, b14, b15, b16, b17, b18, b19, b20, b21, b22, b23]) (hv : 0 ≤ v ∧ v < 4194304) (hk : lnB v = 3) : Fun 6 [.agg [iC li, .d (D.lit (.slice none 0 0)), iC 0, iC 0, iC 0, iC 0, iC 0, iC 0, iC b0, iC b1, iC b2, iC b3, iC b4, iC b5, iC b6, iC b7, iC b8, iC b9, iC b10, iC b11, iC b12, iC b13, iC b14, iC b15, iC b16, iC b17, iC b18, iC b19, iC b20, iC b21, iC b22, iC b23], iE v] (toG []) 0 (.tup [.agg [iC li, .d (D.lit (.slice none 0 0)), iC 0, iC 0, iC 0, iC 0, iC 0, iC 0, iC b0, iC b1, iC b2, iC (b3 + 1), iC b4, iC b5, iC b6, iC b7, iC b8, iC b9, iC b10, iC b11, iC b12, iC b13, iC b14, iC b15, iC b16, iC b17, iC b18, iC b19, iC b20, iC b21, iC b22, iC b23], iE 0]) (toG []) 0 := by
  have hb0 : 0 ≤ b0 ∧ b0 ≤ 1000 := hB 0 (by omega)
  have hb1 : 0 ≤ b1 ∧ b1 ≤ 1000 := hB 1 (by omega)
  have hb2 : 0 ≤ b2 ∧ b2 ≤ 1000 := hB 2 (by omega)
  have hb3 : 0 ≤ b3 ∧ b3 ≤ 1000 := hB 3 (by omega)
  have hb4 : 0 ≤ b4 ∧ b4 ≤ 1000 := hB 4 (by omega)
  have hb5 : 0 ≤ b5 ∧ b5 ≤ 1000 := hB 5 (by omega)
  have hb6 : 0 ≤ b6 ∧ b6 ≤ 1000 := hB 6 (by omega)
  have hb7 : 0 ≤ b7 ∧ b7 ≤ 1000 := hB 7 (by omega)
  have hb8 : 0 ≤ b8 ∧ b8 ≤ 1000 := hB 8 (by omega)
  have hb9 : 0 ≤ b9 ∧ b9 ≤ 1000 := hB 9 (by omega)
  have hb10 : 0 ≤ b10 ∧ b10 ≤ 1000 := hB 10 (by omega)
  have hb11 : 0 ≤ b11 ∧ b11 ≤ 1000 := hB 11 (by omega)
  have hb12 : 0 ≤ b12 ∧ b12 ≤ 1000 := hB 12 (by omega)
  have hb13 : 0 ≤ b13 ∧ b13 ≤ 1000 := hB 13 (by omega)
  have hb14 : 0 ≤ b14 ∧ b14 ≤ 1000 := hB 14 (by omega)
  have hb15 : 0 ≤ b15 ∧ b15 ≤ 1000 := hB 15 (by omega)
  have hb16 : 0 ≤ b16 ∧ b16 ≤ 1000 := hB 16 (by omega)
  have hb17 : 0 ≤ b17 ∧ b17 ≤ 1000 := hB 17 (by omega)
  have hb18 : 0 ≤ b18 ∧ b18 ≤ 1000 := hB 18 (by omega)
  have hb19 : 0 ≤ b19 ∧ b19 ≤ 1000 := hB 19 (by omega)
  have hb20 : 0 ≤ b20 ∧ b20 ≤ 1000 := hB 20 (by omega)
  have hb21 : 0 ≤ b21 ∧ b21 ≤ 1000 := hB 21 (by omega)
  have hb22 : 0 ≤ b22 ∧ b22 ≤ 1000 := hB 22 (by omega)
  have hb23 : 0 ≤ b23 ∧ b23 ≤ 1000 := hB 23 (by omega)
  refine Fun.mk (n := 29) Try.func6 rfl rfl (Nat.le_of_ble_eq_true rfl) ?_
  intro cx hcx
  refine AW.rgs [.no, .no, .no] [1, 2, 4] [0, 1] (P := True) (l' := [(1, iV v), (2, rV 0 0), (4, rV 1 0)]) (g' := [(0, some (28, .ds [iD li, D.lit (.slice none 0 0), iD 0, iD 0, iD 0, iD 0, iD 0, iD 0, iD b0, iD b1, iD b2, iD b3, iD b4, iD b5, iD b6, iD b7, iD b8, iD b9, iD b10, iD b11, iD b12, iD b13, iD b14, iD b15, iD b16, iD b17, iD b18, iD b19, iD b20, iD b21, iD b22, iD b23])), (1, some (28, .ds [iD 0, D.lit (.slice none 0 0), iD 0, iD 0, iD 0, iD 0, iD 0, iD 0, iD 0, iD 0, iD 0, iD 0, iD 0, iD 0, iD 0, iD 0, iD 0, iD 0, iD 0, iD 0, iD 0, iD 0, iD 0, iD 0, iD 0, iD 0, iD 0, iD 0, iD 0, iD 0, iD 0, iD 0]))]) (nx' := 2) (by kernel_rfl) trivial ?_
  refine AW.seq ?_
  refine AW.rgs [.no, .call [] (bV true) [] 0 [some [D.lit (.bool true)]] none, .no] [1, 2, 4, 9] [0, 1] (P := (_)) (l' := [(1, iV v), (2, rV 0 0), (4, rV 1 0), (9, bV false)]) (g' := [(0, some (28, .ds [iD li, D.lit (.slice none 0 0), iD 0, iD 0, iD 0, iD 0, iD 0, iD 0, iD b0, iD b1, iD b2, iD b3, iD b4, iD b5, iD b6, iD b7, iD b8, iD b9, iD b10, iD b11, iD b12, iD b13, iD b14, iD b15, iD b16, iD b17, iD b18, iD b19, iD b20, iD b21, iD b22, iD b23])), (1, some (28, .ds [iD 0, D.lit (.slice none 0 0), iD 0, iD 0, iD 0, iD 0, iD 0, iD 0, iD 0, iD 0, iD 0, iD 0, iD 0, iD 0, iD 0, iD 0, iD 0, iD 0, iD 0, iD 0, iD 0, iD 0, iD 0, iD 0, iD 0, iD 0, iD 0, iD 0, iD 0, iD 0, iD 0, iD 0]))]) (nx' := 2) (by kernel_rfl) (R_val li b0 b1 b2 b3 b4 b5 b6 b7 b8 b9 b10 b11 b12 b13 b14 b15 b16 b17 b18 b19 b20 b21 b22 b23 (by omega) (by first | omega | with_reducible assumption | (simp <;> omega) | rfl | assumption)) ?_
  refine AW.cond_f (.tmp (Look.of rfl)) ?_
  refine AW.skip ?_
  refine AW.seq ?_
  refine AW.rgs [.no, .b false] [1, 2, 4, 12] [0, 1] (P := (¬ (v < 0))) (l' := [(1, iV v), (2, rV 0 0), (4, rV 1 0), (12, bV false)]) (g' := [(0, some (28, .ds [iD li, D.lit (.slice none 0 0), iD 0, iD 0, iD 0, iD 0, iD 0, iD 0, iD b0, iD b1, iD b2, iD b3, iD b4, iD b5, iD b6, iD b7, iD b8, iD b9, iD b10, iD b11, iD b12, iD b13, iD b14, iD b15, iD b16, iD b17, iD b18, iD b19, iD b20, iD b21, iD b22, iD b23])), (1, some (28, .ds [iD 0, D.lit (.slice none 0 0), iD 0, iD 0, iD 0, iD 0, iD 0, iD 0, iD 0, iD 0, iD 0, iD 0, iD 0, iD 0, iD 0, iD 0, iD 0, iD 0, iD 0, iD 0, iD 0, iD 0, iD 0, iD 0, iD 0, iD 0, iD 0, iD 0, iD 0, iD 0, iD 0, iD 0]))]) (nx' := 2) (by kernel_rfl) (by omega) ?_
  refine AW.cond_f (.tmp (Look.of rfl)) ?_
  refine AW.skip ?_
  refine AW.rgs [.no, .call [] (.e (.agg [iC li, .d (D.lit (.slice none 0 0)), iC 0, iC 0, iC 0, iC 0, iC 0, iC 0, iC b0, iC b1, iC b2, iC b3, iC b4, iC b5, iC b6, iC b7, iC b8, iC b9, iC b10, iC b11, iC b12, iC b13, iC b14, iC b15, iC b16, iC b17, iC b18, iC b19, iC b20, iC b21, iC b22, iC b23])) [] 0 [some [D.lit (.bool true)]] none, .no] [1, 2, 4] [0, 1] (P := (_)) (l' := [(1, iV v), (2, rV 0 0), (4, rV 1 0)]) (g' := [(0, some (28, .ds [iD li, D.lit (.slice none 0 0), iD 0, iD 0, iD 0, iD 0, iD 0, iD 0, iD b0, iD b1, iD b2, iD b3, iD b4, iD b5, iD b6, iD b7, iD b8, iD b9, iD b10, iD b11, iD b12, iD b13, iD b14, iD b15, iD b16, iD b17, iD b18, iD b19, iD b20, iD b21, iD b22, iD b23])), (1, some (28, .ds [iD 0, D.lit (.slice none 0 0), iD 0, iD 0, iD 0, iD 0, iD 0, iD 0, iD 0, iD 0, iD 0, iD 0, iD 0, iD 0, iD 0, iD 0, iD 0, iD 0, iD 0, iD 0, iD 0, iD 0, iD 0, iD 0, iD 0, iD 0, iD 0, iD 0, iD 0, iD 0, iD 0, iD 0]))]) (nx' := 2) (by kernel_rfl) (R_fr li b0 b1 b2 b3 b4 b5 b6 b7 b8 b9 b10 b11 b12 b13 b14 b15 b16 b17 b18 b19 b20 b21 b22 b23) ?_
  have hx1 : ((lnB v) ≤ 22) := (ln_22 ((by omega)))
  refine AW.rgs [.no, .w, .call [] (iV (((lnB v) : Nat) : Int)) [] 0 [] none, .no, .no] [2, 4, 6] [0, 1] (P := (0 ≤ v ∧ v ≤ 18446744073709551615) ∧ (_)) (l' := [(2, rV 0 0), (4, rV 1 0), (6, iV (min (((lnB v) : Nat) : Int) 23))]) (g' := [(0, some (28, .ds [iD li, D.lit (.slice none 0 0), iD 0, iD 0, iD 0, iD 0, iD 0, iD 0, iD b0, iD b1, iD b2, iD b3, iD b4, iD b5, iD b6, iD b7, iD b8, iD b9, iD b10, iD b11, iD b12, iD b13, iD b14, iD b15, iD b16, iD b17, iD b18, iD b19, iD b20, iD b21, iD b22, iD b23])), (1, some (28, .ds [iD 0, D.lit (.slice none 0 0), iD 0, iD 0, iD 0, iD 0, iD 0, iD 0, iD 0, iD 0, iD 0, iD 0, iD 0, iD 0, iD 0, iD 0, iD 0, iD 0, iD 0, iD 0, iD 0, iD 0, iD 0, iD 0, iD 0, iD 0, iD 0, iD 0, iD 0, iD 0, iD 0, iD 0]))]) (nx' := 2) (by kernel_rfl) ⟨⟨by omega, by omega⟩, (R_Len v (by omega))⟩ ?_
  refine AW.rgs [.no, .no, .no, .n2 3 11, .no, .call [] (iV (b3 + 1)) [] 0 [] none, .no, .n2 3 11, .no] [2, 4] [0, 1] (P := (((min (((lnB v) : Nat) : Int) 23) : Int) = 3) ∧ ((3 : Nat) < 24) ∧ ((8 : Nat) + 3 * 1 = 11) ∧ (_) ∧ (((min (((lnB v) : Nat) : Int) 23) : Int) = 3) ∧ ((3 : Nat) < 24) ∧ ((8 : Nat) + 3 * 1 = 11)) (l' := [(2, rV 0 0), (4, rV 1 0)]) (g' := [(0, some (28, .ds [iD li, D.lit (.slice none 0 0), iD 0, iD 0, iD 0, iD 0, iD 0, iD 0, iD b0, iD b1, iD b2, iD (b3 + 1), iD b4, iD b5, iD b6, iD b7, iD b8, iD b9, iD b10, iD b11, iD b12, iD b13, iD b14, iD b15, iD b16, iD b17, iD b18, iD b19, iD b20, iD b21, iD b22, iD b23])), (1, some (28, .ds [iD 0, D.lit (.slice none 0 0), iD 0, iD 0, iD 0, iD 0, iD 0, iD 0, iD 0, iD 0, iD 0, iD 0, iD 0, iD 0, iD 0, iD 0, iD 0, iD 0, iD 0, iD 0, iD 0, iD 0, iD 0, iD 0, iD 0, iD 0, iD 0, iD 0, iD 0, iD 0, iD 0, iD 0]))]) (nx' := 2) (by kernel_rfl) ⟨(by first | rfl | omega), (by omega), (by omega), (R_ctd b3 (by omega)), (by first | rfl | omega), (by omega), (by omega)⟩ ?_
  refine AW.rgs [.no, .no, .no] [4, 5] [1] (P := True) (l' := [(4, rV 1 0), (5, iV 0)]) (g' := [(1, some (28, .ds [iD li, D.lit (.slice none 0 0), iD 0, iD 0, iD 0, iD 0, iD 0, iD 0, iD b0, iD b1, iD b2, iD (b3 + 1), iD b4, iD b5, iD b6, iD b7, iD b8, iD b9, iD b10, iD b11, iD b12, iD b13, iD b14, iD b15, iD b16, iD b17, iD b18, iD b19, iD b20, iD b21, iD b22, iD b23]))]) (nx' := 2) (by kernel_rfl) trivial ?_
  refine AW.ret ?_
  exact EndP.of (.inr rfl) [] (P := ((li : Int) = li) ∧ ((.slice none 0 0 : Value) = .slice none 0 0) ∧ ((0 : Int) = 0) ∧ ((0 : Int) = 0) ∧ ((0 : Int) = 0) ∧ ((0 : Int) = 0) ∧ ((0 : Int) = 0) ∧ ((0 : Int) = 0) ∧ ((b0 : Int) = b0) ∧ ((b1 : Int) = b1) ∧ ((b2 : Int) = b2) ∧ (((b3 + 1) : Int) = (b3 + 1)) ∧ ((b4 : Int) = b4) ∧ ((b5 : Int) = b5) ∧ ((b6 : Int) = b6) ∧ ((b7 : Int) = b7) ∧ ((b8 : Int) = b8) ∧ ((b9 : Int) = b9) ∧ ((b10 : Int) = b10) ∧ ((b11 : Int) = b11) ∧ ((b12 : Int) = b12) ∧ ((b13 : Int) = b13) ∧ ((b14 : Int) = b14) ∧ ((b15 : Int) = b15) ∧ ((b16 : Int) = b16) ∧ ((b17 : Int) = b17) ∧ ((b18 : Int) = b18) ∧ ((b19 : Int) = b19) ∧ ((b20 : Int) = b20) ∧ ((b21 : Int) = b21) ∧ ((b22 : Int) = b22) ∧ ((b23 : Int) = b23) ∧ ((0 : Int) = 0)) (by kernel_rfl) ⟨rfl, rfl, rfl, rfl, rfl, rfl, rfl, rfl, rfl, rfl, rfl, rfl, rfl, rfl, rfl, rfl, rfl, rfl, rfl, rfl, rfl, rfl, rfl, rfl, rfl, rfl, rfl, rfl, rfl, rfl, rfl, rfl, rfl⟩

set_option maxHeartbeats 4000000 in
set_option maxRecDepth 100000 in
theorem R_ms4 (li b0 b1 b2 b3 b4 b5 b6 b7 b8 b9 b10 b11 b12 b13 b14 b15 b16 b17 b18 b19 b20 b21 b22 b23 v : Int) (hli : 1 ≤ li ∧ li ≤ 256) (hB : bkOk [b0, b1, b2, b3, b4, b5, b6, b7, b8, b9, b10, b11, b12, b13, b14, b15, b16, b17, b18, b19, b20, b21, b22, b23]) (hv : 0 ≤ v ∧ v < 4194304) (hk : lnB v = 4) : Fun 6 [.agg [iC li, .d (D.lit (.slice none 0 0)), iC 0, iC 0, iC 0, iC 0, iC 0, iC 0, iC b0, iC b1, iC b2, iC b3, iC b4, iC b5, iC b6, iC b7, iC b8, iC b9, iC b10, iC b11, iC b12, iC b13, iC b14, iC b15, iC b16, iC b17, iC b18, iC b19, iC b20, iC b21, iC b22, iC b23], iE v] (toG []) 0 (.tup [.agg [iC li, .d (D.lit (.slice none 0 0)), iC 0, iC 0, iC 0, iC 0, iC 0, iC 0, iC b0, iC b1, iC b2, iC b3, iC (b4 + 1), iC b5, iC b6, iC b7, iC b8, iC b9, iC b10, iC b11, iC b12, iC b13, iC b14, iC b15, iC b16, iC b17, iC b18, iC b19, iC b20, iC b21, iC b22, iC b23], iE 0]) (toG []) 0 := by
  have hb0 : 0 ≤ b0 ∧ b0 ≤ 1000 := hB 0 (by omega)
  have hb1 : 0 ≤ b1 ∧ b1 ≤ 1000 := hB 1 (by omega)
  have hb2 : 0 ≤ b2 ∧ b2 ≤ 1000 := hB 2 (by omega)
  have hb3 : 0 ≤ b3 ∧ b3 ≤ 1000 := hB 3 (by omega)
  have hb4 : 0 ≤ b4 ∧ b4 ≤ 1000 := hB 4 (by omega)
  have hb5 : 0 ≤ b5 ∧ b5 ≤ 1000 := hB 5 (by omega)
  have hb6 : 0 ≤ b6 ∧ b6 ≤ 1000 := hB 6 (by omega)
  have hb7 : 0 ≤ b7 ∧ b7 ≤ 1000 := hB 7 (by omega)
  have hb8 : 0 ≤ b8 ∧ b8 ≤ 1000 := hB 8 (by omega)
  have hb9 : 0 ≤ b9 ∧ b9 ≤ 1000 := hB 9 (by omega)
  have hb10 : 0 ≤ b10 ∧ b10 ≤ 1000 := hB 10 (by omega)
  have hb11 : 0 ≤ b11 ∧ b11 ≤ 1000 := hB 11 (by omega)
  have hb12 : 0 ≤ b12 ∧ b12 ≤ 1000 := hB 12 (by omega)
  have hb13 : 0 ≤ b13 ∧ b13 ≤ 1000 := hB 13 (by omega)
  have hb14 : 0 ≤ b14 ∧ b14 ≤ 1000 := hB 14 (by omega)
  have hb15 : 0 ≤ b15 ∧ b15 ≤ 1000 := hB 15 (by omega)
  have hb16 : 0 ≤ b16 ∧ b16 ≤ 1000 := hB 16 (by omega)
  have hb17 : 0 ≤ b17 ∧ b17 ≤ 1000 := hB 17 (by omega)
  have hb18 : 0 ≤ b18 ∧ b18 ≤ 1000 := hB 18 (by omega)
  have hb19 : 0 ≤ b19 ∧ b19 ≤ 1000 := hB 19 (by omega)
  have hb20 : 0 ≤ b20 ∧ b20 ≤ 1000 := hB 20 (by omega)
  have hb21 : 0 ≤ b21 ∧ b21 ≤ 1000 := hB 21 (by omega)
  have hb22 : 0 ≤ b22 ∧ b22 ≤ 1000 := hB 22 (by omega)
  have hb23 : 0 ≤ b23 ∧ b23 ≤ 1000 := hB 23 (by omega)
  refine Fun.mk (n := 29) Try.func6 rfl rfl (Nat.le_of_ble_eq_true rfl) ?_
  intro cx hcx
  refine AW.rgs [.no, .no, .no] [1, 2, 4] [0, 1] (P := True) (l' := [(1, iV v), (2, rV 0 0), (4, rV 1 0)]) (g' := [(0, some (28, .ds [iD li, D.lit (.slice none 0 0), iD 0, iD 0, iD 0, iD 0, iD 0, iD 0, iD b0, iD b1, iD b2, iD b3, iD b4, iD b5, iD b6, iD b7, iD b8, iD b9, iD b10, iD b11, iD b12, iD b13, iD b14, iD b15, iD b16, iD b17, iD b18, iD b19, iD b20, iD b21, iD b22, iD b23])), (1, some (28, .ds [iD 0, D.lit (.slice none 0 0), iD 0, iD 0, iD 0, iD 0, iD 0, iD 0, iD 0, iD 0, iD 0, iD 0, iD 0, iD 0, iD 0, iD 0, iD 0, iD 0, iD 0, iD 0, iD 0, iD 0, iD 0, iD 0, iD 0, iD 0, iD 0, iD 0, iD 0, iD 0, iD 0, iD 0]))]) (nx' := 2) (by kernel_rfl) trivial ?_
  refine AW.seq ?_
  refine AW.rgs [.no, .call [] (bV true) [] 0 [some [D.lit (.bool true)]] none, .no] [1, 2, 4, 9] [0, 1] (P := (_)) (l' := [(1, iV v), (2, rV 0 0), (4, rV 1 0), (9, bV false)]) (g' := [(0, some (28, .ds [iD li, D.lit (.slice none 0 0), iD 0, iD 0, iD 0, iD 0, iD 0, iD 0, iD b0, iD b1, iD b2, iD b3, iD b4, iD b5, iD b6, iD b7, iD b8, iD b9, iD b10, iD b11, iD b12, iD b13, iD b14, iD b15, iD b16, iD b17, iD b18, iD b19, iD b20, iD b21, iD b22, iD b23])), (1, some (28, .ds [iD 0, D.lit (.slice none 0 0), iD 0, iD 0, iD 0, iD 0, iD 0, iD 0, iD 0, iD 0, iD 0, iD 0, iD 0, iD 0, iD 0, iD 0, iD 0, iD 0, iD 0, iD 0, iD 0, iD 0, iD 0, iD 0, iD 0, iD 0, iD 0, iD 0, iD 0, iD 0, iD 0, iD 0]))]) (nx' := 2) (by kernel_rfl) (R_val li b0 b1 b2 b3 b4 b5 b6 b7 b8 b9 b10 b11 b12 b13 b14 b15 b16 b17 b18 b19 b20 b21 b22 b23 (by omega) (by first | omega | with_reducible assumption | (simp <;> omega) | rfl | assumption)) ?_
  refine AW.cond_f (.tmp (Look.of rfl)) ?_
  refine AW.skip ?_
  refine AW.seq ?_
  refine AW.rgs [.no, .b false] [1, 2, 4, 12] [0, 1] (P := (¬ (v < 0))) (l' := [(1, iV v), (2, rV 0 0), (4, rV 1 0), (12, bV false)]) (g' := [(0, some (28, .ds [iD li, D.lit (.slice none 0 0), iD 0, iD 0, iD 0, iD 0, iD 0, iD 0, iD b0, iD b1, iD b2, iD b3, iD b4, iD b5, iD b6, iD b7, iD b8, iD b9, iD b10, iD b11, iD b12, iD b13, iD b14, iD b15, iD b16, iD b17, iD b18, iD b19, iD b20, iD b21, iD b22, iD b23])), (1, some (28, .ds [iD 0, D.lit (.slice none 0 0), iD 0, iD 0, iD 0, iD 0, iD 0, iD 0, iD 0, iD 0, iD 0, iD 0, iD 0, iD 0, iD 0, iD 0, iD 0, iD 0, iD 0, iD 0, iD 0, iD 0, iD 0, iD 0, iD 0, iD 0, iD 0, iD 0, iD 0, iD 0, iD 0, iD 0]))]) (nx' := 2) (by kernel_rfl) (by omega) ?_
  refine AW.cond_f (.tmp (Look.of rfl)) ?_
  refine AW.skip ?_
  refine AW.rgs [.no, .call [] (.e (.agg [iC li, .d (D.lit (.slice none 0 0)), iC 0, iC 0, iC 0, iC 0, iC 0, iC 0, iC b0, iC b1, iC b2, iC b3, iC b4, iC b5, iC b6, iC b7, iC b8, iC b9, iC b10, iC b11, iC b12, iC b13, iC b14, iC b15, iC b16, iC b17, iC b18, iC b19, iC b20, iC b21, iC b22, iC b23])) [] 0 [some [D.lit (.bool true)]] none, .no] [1, 2, 4] [0, 1] (P := (_)) (l' := [(1, iV v), (2, rV 0 0), (4, rV 1 0)]) (g' := [(0, some (28, .ds [iD li, D.lit (.slice none 0 0), iD 0, iD 0, iD 0, iD 0, iD 0, iD 0, iD b0, iD b1, iD b2, iD b3, iD b4, iD b5, iD b6, iD b7, iD b8, iD b9, iD b10, iD b11, iD b12, iD b13, iD b14, iD b15, iD b16, iD b17, iD b18, iD b19, iD b20, iD b21, iD b22, iD b23])), (1, some (28, .ds [iD 0, D.lit (.slice none 0 0), iD 0, iD 0, iD 0, iD 0, iD 0, iD 0, iD 0, iD 0, iD 0, iD 0, iD 0, iD 0, iD 0, iD 0, iD 0, iD 0, iD 0, iD 0, iD 0, iD 0, iD 0, iD 0, iD 0, iD 0, iD 0, iD 0, iD 0, iD 0, iD 0, iD 0]))]) (nx' := 2) (by kernel_rfl) (R_fr li b0 b1 b2 b3 b4 b5 b6 b7 b8 b9 b10 b11 b12 b13 b14 b15 b16 b17 b18 b19 b20 b21 b22 b23) ?_
  have hx1 : ((lnB v) ≤ 22) := (ln_22 ((by omega)))
  refine AW.rgs [.no, .w, .call [] (iV (((lnB v) : Nat) : Int)) [] 0 [] none, .no, .no] [2, 4, 6] [0, 1] (P := (0 ≤ v ∧ v ≤ 18446744073709551615) ∧ (_)) (l' := [(2, rV 0 0), (4, rV 1 0), (6, iV (min (((lnB v) : Nat) : Int) 23))]) (g' := [(0, some (28, .ds [iD li, D.lit (.slice none 0 0), iD 0, iD 0, iD 0, iD 0, iD 0, iD 0, iD b0, iD b1, iD b2, iD b3, iD b4, iD b5, iD b6, iD b7, iD b8, iD b9, iD b10, iD b11, iD b12, iD b13, iD b14, iD b15, iD b16, iD b17, iD b18, iD b19, iD b20, iD b21, iD b22, iD b23])), (1, some (28, .ds [iD 0, D.lit (.slice none 0 0), iD 0, iD 0, iD 0, iD 0, iD 0, iD 0, iD 0, iD 0, iD 0, iD 0, iD 0, iD 0, iD 0, iD 0, iD 0, iD 0, iD 0, iD 0, iD 0, iD 0, iD 0, iD 0, iD 0, iD 0, iD 0, iD 0, iD 0, iD 0, iD 0, iD 0]))]) (nx' := 2) (by kernel_rfl) ⟨⟨by omega, by omega⟩, (R_Len v (by omega))⟩ ?_
  refine AW.rgs [.no, .no, .no, .n2 4 12, .no, .call [] (iV (b4 + 1)) [] 0 [] none, .no, .n2 4 12, .no] [2, 4] [0, 1] (P := (((min (((lnB v) : Nat) : Int) 23) : Int) = 4) ∧ ((4 : Nat) < 24) ∧ ((8 : Nat) + 4 * 1 = 12) ∧ (_) ∧ (((min (((lnB v) : Nat) : Int) 23) : Int) = 4) ∧ ((4 : Nat) < 24) ∧ ((8 : Nat) + 4 * 1 = 12)) (l' := [(2, rV 0 0), (4, rV 1 0)]) (g' := [(0, some (28, .ds [iD li, D.lit (.slice none 0 0), iD 0, iD 0, iD 0, iD 0, iD 0, iD 0, iD b0, iD b1, iD b2, iD b3, iD (b4 + 1), iD b5, iD b6, iD b7, iD b8, iD b9, iD b10, iD b11, iD b12, iD b13, iD b14, iD b15, iD b16, iD b17, iD b18, iD b19, iD b20, iD b21, iD b22, iD b23])), (1, some (28, .ds [iD 0, D.lit (.slice none 0 0), iD 0, iD 0, iD 0, iD 0, iD 0, iD 0, iD 0, iD 0, iD 0, iD 0, iD 0, iD 0, iD 0, iD 0, iD 0, iD 0, iD 0, iD 0, iD 0, iD 0, iD 0, iD 0, iD 0, iD 0, iD 0, iD 0, iD 0, iD 0, iD 0, iD 0]))]) (nx' := 2) (by kernel_rfl) ⟨(by first | rfl | omega), (by omega), (by omega), (R_ctd b4 (by omega)), (by first | rfl | omega), (by omega), (by omega)⟩ ?_
  refine AW.rgs [.no, .no, .no] [4, 5] [1] (P := True) (l' := [(4, rV 1 0), (5, iV 0)]) (g' := [(1, some (28, .ds [iD li, D.lit (.slice none 0 0), iD 0, iD 0, iD 0, iD 0, iD 0, iD 0, iD b0, iD b1, iD b2, iD b3, iD (b4 + 1), iD b5, iD b6, iD b7, iD b8, iD b9, iD b10, iD b11, iD b12, iD b13, iD b14, iD b15, iD b16, iD b17, iD b18, iD b19, iD b20, iD b21, iD b22, iD b23]))]) (nx' := 2) (by kernel_rfl) trivial ?_
  refine AW.ret ?_
  exact EndP.of (.inr rfl) [] (P := ((li : Int) = li) ∧ ((.slice none 0 0 : Value) = .slice none 0 0) ∧ ((0 : Int) = 0) ∧ ((0 : Int) = 0) ∧ ((0 : Int) = 0) ∧ ((0 : Int) = 0) ∧ ((0 : Int) = 0) ∧ ((0 : Int) = 0) ∧ ((b0 : Int) = b0) ∧ ((b1 : Int) = b1) ∧ ((b2 : Int) = b2) ∧ ((b3 : Int) = b3) ∧ (((b4 + 1) : Int) = (b4 + 1)) ∧ ((b5 : Int) = b5) ∧ ((b6 : Int) = b6) ∧ ((b7 : Int) = b7) ∧ ((b8 : Int) = b8) ∧ ((b9 : Int) = b9) ∧ ((b10 : Int) = b10) ∧ ((b11 : Int) = b11) ∧ ((b12 : Int) = b12) ∧ ((b13 : Int) = b13) ∧ ((b14 : Int) = b14) ∧ ((b15 : Int) = b15) ∧ ((b16 : Int) = b16) ∧ ((b17 : Int) = b17) ∧ ((b18 : Int) = b18) ∧ ((b19 : Int) = b19) ∧ ((b20 : Int) = b20) ∧ ((b21 : Int) = b21) ∧ ((b22 : Int) = b22) ∧ ((b23 : Int) = b23) ∧ ((0 : Int) = 0)) (by kernel_rfl) ⟨rfl, rfl, rfl, rfl, rfl, rfl, rfl, rfl, rfl, rfl, rfl, rfl, rfl, rfl, rfl, rfl, rfl, rfl, rfl, rfl, rfl, rfl, rfl, rfl, rfl, rfl, rfl, rfl, rfl, rfl, rfl, rfl, rfl⟩

set_option maxHeartbeats 4000000 in
set_option maxRecDepth 100000 in
theorem R_ms5 (li b0 b1 b2 b3 b4 b5 b6 b7 b8 b9 b10 b11 b12 b13 b14 b15 b16 b17 b18 b19 b20 b21 b22 b23 v : Int) (hli : 1 ≤ li ∧ li ≤ 256) (hB : bkOk [b0, b1, b2, b3, b4, b5, b6, b7, b8, b9, b10, b11, b12, b13, b14, b15, b16, b17, b18, b19, b20, b21, b22, b23]) (hv : 0 ≤ v ∧ v < 4194304) (hk : lnB v = 5) : Fun 6 [.agg [iC li, .d (D.lit (.slice none 0 0)), iC 0, iC 0, iC 0, iC 0, iC 0, iC 0, iC b0, iC b1, iC b2, iC b3, iC b4, iC b5, iC b6, iC b7, iC b8, iC b9, iC b10, iC b11, iC b12, iC b13, iC b14, iC b15, iC b16, iC b17, iC b18, iC b19, iC b20, iC b21, iC b22, iC b23], iE v] (toG []) 0 (.tup [.agg [iC li, .d (D.lit (.slice none 0 0)), iC 0, iC 0, iC 0, iC 0, iC 0, iC 0, iC b0, iC b1, iC b2, iC b3, iC b4, iC (b5 + 1), iC b6, iC b7, iC b8, iC b9, iC b10, iC b11, iC b12, iC b13, iC b14, iC b15, iC b16, iC b17, iC b18, iC b19, iC b20, iC b21, iC b22, iC b23], iE 0]) (toG []) 0 := by
  have hb0 : 0 ≤ b0 ∧ b0 ≤ 1000 := hB 0 (by omega)
  have hb1 : 0 ≤ b1 ∧ b1 ≤ 1000 := hB 1 (by omega)
  have hb2 : 0 ≤ b2 ∧ b2 ≤ 1000 := hB 2 (by omega)
  have hb3 : 0 ≤ b3 ∧ b3 ≤ 1000 := hB 3 (by omega)
  have hb4 : 0 ≤ b4 ∧ b4 ≤ 1000 := hB 4 (by omega)
  have hb5 : 0 ≤ b5 ∧ b5 ≤ 1000 := hB 5 (by omega)
  have hb6 : 0 ≤ b6 ∧ b6 ≤ 1000 := hB 6 (by omega)
  have hb7 : 0 ≤ b7 ∧ b7 ≤ 1000 := hB 7 (by omega)
  have hb8 : 0 ≤ b8 ∧ b8 ≤ 1000 := hB 8 (by omega)
  have hb9 : 0 ≤ b9 ∧ b9 ≤ 1000 := hB 9 (by omega)
  have hb10 : 0 ≤ b10 ∧ b10 ≤ 1000 := hB 10 (by omega)
  have hb11 : 0 ≤ b11 ∧ b11 ≤ 1000 := hB 11 (by omega)
  have hb12 : 0 ≤ b12 ∧ b12 ≤ 1000 := hB 12 (by omega)
  have hb13 : 0 ≤ b13 ∧ b13 ≤ 1000 := hB 13 (by omega)
  have hb14 : 0 ≤ b14 ∧ b14 ≤ 1000 := hB 14 (by omega)
  have hb15 : 0 ≤ b15 ∧ b15 ≤ 1000 := hB 15 (by omega)
  have hb16 : 0 ≤ b16 ∧ b16 ≤ 1000 := hB 16 (by omega)
  have hb17 : 0 ≤ b17 ∧ b17 ≤ 1000 := hB 17 (by omega)
  have hb18 : 0 ≤ b18 ∧ b18 ≤ 1000 := hB 18 (by omega)
  have hb19 : 0 ≤ b19 ∧ b19 ≤ 1000 := hB 19 (by omega)
  have hb20 : 0 ≤ b20 ∧ b20 ≤ 1000 := hB 20 (by omega)
  have hb21 : 0 ≤ b21 ∧ b21 ≤ 1000 := hB 21 (by omega)
  have hb22 : 0 ≤ b22 ∧ b22 ≤ 1000 := hB 22 (by omega)
  have hb23 : 0 ≤ b23 ∧ b23 ≤ 1000 := hB 23 (by omega)
  refine Fun.mk (n := 29) Try.func6 rfl rfl (Nat.le_of_ble_eq_true rfl) ?_
  intro cx hcx
  refine AW.rgs [.no, .no, .no] [1, 2, 4] [0, 1] (P := True) (l' := [(1, iV v), (2, rV 0 0), (4, rV 1 0)]) (g' := [(0, some (28, .ds [iD li, D.lit (.slice none 0 0), iD 0, iD 0, iD 0, iD 0, iD 0, iD 0, iD b0, iD b1, iD b2, iD b3, iD b4, iD b5, iD b6, iD b7, iD b8, iD b9, iD b10, iD b11, iD b12, iD b13, iD b14, iD b15, iD b16, iD b17, iD b18, iD b19, iD b20, iD b21, iD b22, iD b23])), (1, some (28, .ds [iD 0, D.lit (.slice none 0 0), iD 0, iD 0, iD 0, iD 0, iD 0, iD 0, iD 0, iD 0, iD 0, iD 0, iD 0, iD 0, iD 0, iD 0, iD 0, iD 0, iD 0, iD 0, iD 0, iD 0, iD 0, iD 0, iD 0, iD 0, iD 0, iD 0, iD 0, iD 0, iD 0, iD 0]))]) (nx' := 2) (by kernel_rfl) trivial ?_
  refine AW.seq ?_
  refine AW.rgs [.no, .call [] (bV true) [] 0 [some [D.lit (.bool true)]] none, .no] [1, 2, 4, 9] [0, 1] (P := (_)) (l' := [(1, iV v), (2, rV 0 0), (4, rV 1 0), (9, bV false)]) (g' := [(0, some (28, .ds [iD li, D.lit (.slice none 0 0), iD 0, iD 0, iD 0, iD 0, iD 0, iD 0, iD b0, iD b1, iD b2, iD b3, iD b4, iD b5, iD b6, iD b7, iD b8, iD b9, iD b10, iD b11, iD b12, iD b13, iD b14, iD b15, iD b16, iD b17, iD b18, iD b19, iD b20, iD b21, iD b22, iD b23])), (1, some (28, .ds [iD 0, D.lit (.slice none 0 0), iD 0, iD 0, iD 0, iD 0, iD 0, iD 0, iD 0, iD 0, iD 0, iD 0, iD 0, iD 0, iD 0, iD 0, iD 0, iD 0, iD 0, iD 0, iD 0, iD 0, iD 0, iD 0, iD 0, iD 0, iD 0, iD 0, iD 0, iD 0, iD 0, iD 0]))]) (nx' := 2) (by kernel_rfl) (R_val li b0 b1 b2 b3 b4 b5 b6 b7 b8 b9 b10 b11 b12 b13 b14 b15 b16 b17 b18 b19 b20 b21 b22 b23 (by omega) (by first | omega | with_reducible assumption | (simp <;> omega) | rfl | assumption)) ?_
  refine AW.cond_f (.tmp (Look.of rfl)) ?_
  refine AW.skip ?_
  refine AW.seq ?_
  refine AW.rgs [.no, .b false] [1, 2, 4, 12] [0, 1] (P := (¬ (v < 0))) (l' := [(1, iV v), (2, rV 0 0), (4, rV 1 0), (12, bV false)]) (g' := [(0, some (28, .ds [iD li, D.lit (.slice none 0 0), iD 0, iD 0, iD 0, iD 0, iD 0, iD 0, iD b0, iD b1, iD b2, iD b3, iD b4, iD b5, iD b6, iD b7, iD b8, iD b9, iD b10, iD b11, iD b12, iD b13, iD b14, iD b15, iD b16, iD b17, iD b18, iD b19, iD b20, iD b21, iD b22, iD b23])), (1, some (28, .ds [iD 0, D.lit (.slice none 0 0), iD 0, iD 0, iD 0, iD 0, iD 0, iD 0, iD 0, iD 0, iD 0, iD 0, iD 0, iD 0, iD 0, iD 0, iD 0, iD 0, iD 0, iD 0, iD 0, iD 0, iD 0, iD 0, iD 0, iD 0, iD 0, iD 0, iD 0, iD 0, iD 0, iD 0]))]) (nx' := 2) (by kernel_rfl) (by omega) ?_
  refine AW.cond_f (.tmp (Look.of rfl)) ?_
  refine AW.skip ?_
  refine AW.rgs [.no, .call [] (.e (.agg [iC li, .d (D.lit (.slice none 0 0)), iC 0, iC 0, iC 0, iC 0, iC 0, iC 0, iC b0, iC b1, iC b2, iC b3, iC b4, iC b5, iC b6, iC b7, iC b8, iC b9, iC b10, iC b11, iC b12, iC b13, iC b14, iC b15, iC b16, iC b17, iC b18, iC b19, iC b20, iC b21, iC b22, iC b23])) [] 0 [some [D.lit (.bool true)]] none, .no] [1, 2, 4] [0, 1] (P := (_)) (l' := [(1, iV v), (2, rV 0 0), (4, rV 1 0)]) (g' := [(0, some (28, .ds [iD li, D.lit (.slice none 0 0), iD 0, iD 0, iD 0, iD 0, iD 0, iD 0, iD b0, iD b1, iD b2, iD b3, iD b4, iD b5, iD b6, iD b7, iD b8, iD b9, iD b10, iD b11, iD b12, iD b13, iD b14, iD b15, iD b16, iD b17, iD b18, iD b19, iD b20, iD b21, iD b22, iD b23])), (1, some (28, .ds [iD 0, D.lit (.slice none 0 0), iD 0, iD 0, iD 0, iD 0, iD 0, iD 0, iD 0, iD 0, iD 0, iD 0, iD 0, iD 0, iD 0, iD 0, iD 0, iD 0, iD 0, iD 0, iD 0, iD 0, iD 0, iD 0, iD 0, iD 0, iD 0, iD 0, iD 0, iD 0, iD 0, iD 0]))]) (nx' := 2) (by kernel_rfl) (R_fr li b0 b1 b2 b3 b4 b5 b6 b7 b8 b9 b10 b11 b12 b13 b14 b15 b16 b17 b18 b19 b20 b21 b22 b23) ?_
  have hx1 : ((lnB v) ≤ 22) := (ln_22 ((by omega)))
  refine AW.rgs [.no, .w, .call [] (iV (((lnB v) : Nat) : Int)) [] 0 [] none, .no, .no] [2, 4, 6] [0, 1] (P := (0 ≤ v ∧ v ≤ 18446744073709551615) ∧ (_)) (l' := [(2, rV 0 0), (4, rV 1 0), (6, iV (min (((lnB v) : Nat) : Int) 23))]) (g' := [(0, some (28, .ds [iD li, D.lit (.slice none 0 0), iD 0, iD 0, iD 0, iD 0, iD 0, iD 0, iD b0, iD b1, iD b2, iD b3, iD b4, iD b5, iD b6, iD b7, iD b8, iD b9, iD b10, iD b11, iD b12, iD b13, iD b14, iD b15, iD b16, iD b17, iD b18, iD b19, iD b20, iD b21, iD b22, iD b23])), (1, some (28, .ds [iD 0, D.lit (.slice none 0 0), iD 0, iD 0, iD 0, iD 0, iD 0, iD 0, iD 0, iD 0, iD 0, iD 0, iD 0, iD 0, iD 0, iD 0, iD 0, iD 0, iD 0, iD 0, iD 0, iD 0, iD 0, iD 0, iD 0, iD 0, iD 0, iD 0, iD 0, iD 0, iD 0, iD 0]))]) (nx' := 2) (by kernel_rfl) ⟨⟨by omega, by omega⟩, (R_Len v (by omega))⟩ ?_
  refine AW.rgs [.no, .no, .no, .n2 5 13, .no, .call [] (iV (b5 + 1)) [] 0 [] none, .no, .n2 5 13, .no] [2, 4] [0, 1] (P := (((min (((lnB v) : Nat) : Int) 23) : Int) = 5) ∧ ((5 : Nat) < 24) ∧ ((8 : Nat) + 5 * 1 = 13) ∧ (_) ∧ (((min (((lnB v) : Nat) : Int) 23) : Int) = 5) ∧ ((5 : Nat) < 24) ∧ ((8 : Nat) + 5 * 1 = 13)) (l' := [(2, rV 0 0), (4, rV 1 0)]) (g' := [(0, some (28, .ds [iD li, D.lit (.slice none 0 0), iD 0, iD 0, iD 0, iD 0, iD 0, iD 0, iD b0, iD b1, iD b2, iD b3, iD b4, iD (b5 + 1), iD b6, iD b7, iD b8, iD b9, iD b10, iD b11, iD b12, iD b13, iD b14, iD b15, iD b16, iD b17, iD b18, iD b19, iD b20, iD b21, iD b22, iD b23])), (1, some (28, .ds [iD 0, D.lit (.slice none 0 0), iD 0, iD 0, iD 0, iD 0, iD 0, iD 0, iD 0, iD 0, iD 0, iD 0, iD 0, iD 0, iD 0, iD 0, iD 0, iD 0, iD 0, iD 0, iD 0, iD 0, iD 0, iD 0, iD 0, iD 0, iD 0, iD 0, iD 0, iD 0, iD 0, iD 0]))]) (nx' := 2) (by kernel_rfl) ⟨(by first | rfl | omega), (by omega), (by omega), (R_ctd b5 (by omega)), (by first | rfl | omega), (by omega), (by omega)⟩ ?_
  refine AW.rgs [.no, .no, .no] [4, 5] [1] (P := True) (l' := [(4, rV 1 0), (5, iV 0)]) (g' := [(1, some (28, .ds [iD li, D.lit (.slice none 0 0), iD 0, iD 0, iD 0, iD 0, iD 0, iD 0, iD b0, iD b1, iD b2, iD b3, iD b4, iD (b5 + 1), iD b6, iD b7, iD b8, iD b9, iD b10, iD b11, iD b12, iD b13, iD b14, iD b15, iD b16, iD b17, iD b18, iD b19, iD b20, iD b21, iD b22, iD b23]))]) (nx' := 2) (by kernel_rfl) trivial ?_
  refine AW.ret ?_
  exact EndP.of (.inr rfl) [] (P := ((li : Int) = li) ∧ ((.slice none 0 0 : Value) = .slice none 0 0) ∧ ((0 : Int) = 0) ∧ ((0 : Int) = 0) ∧ ((0 : Int) = 0) ∧ ((0 : Int) = 0) ∧ ((0 : Int) = 0) ∧ ((0 : Int) = 0) ∧ ((b0 : Int) = b0) ∧ ((b1 : Int) = b1) ∧ ((b2 : Int) = b2) ∧ ((b3 : Int) = b3) ∧ ((b4 : Int) = b4) ∧ (((b5 + 1) : Int) = (b5 + 1)) ∧ ((b6 : Int) = b6) ∧ ((b7 : Int) = b7) ∧ ((b8 : Int) = b8) ∧ ((b9 : Int) = b9) ∧ ((b10 : Int) = b10) ∧ ((b11 : Int) = b11) ∧ ((b12 : Int) = b12) ∧ ((b13 : Int) = b13) ∧ ((b14 : Int) = b14) ∧ ((b15 : Int) = b15) ∧ ((b16 : Int) = b16) ∧ ((b17 : Int) = b17) ∧ ((b18 : Int) = b18) ∧ ((b19 : Int) = b19) ∧ ((b20 : Int) = b20) ∧ ((b21 : Int) = b21) ∧ ((b22 : Int) = b22) ∧ ((b23 : Int) = b23) ∧ ((0 : Int) = 0)) (by kernel_rfl) ⟨rfl, rfl, rfl, rfl, rfl, rfl, rfl, rfl, rfl, rfl, rfl, rfl, rfl, rfl, rfl, rfl, rfl, rfl, rfl, rfl, rfl, rfl, rfl, rfl, rfl, rfl, rfl, rfl, rfl, rfl, rfl, rfl, rfl⟩

set_option maxHeartbeats 4000000 in
set_option maxRecDepth 100000 in
theorem R_ms6 (li b0 b1 b2 b3 b4 b5 b6 b7 b8 b9 b10 b11 b12 b13 b14 b15 b16 b17 b18 b19 b20 b21 b22 b23 v : Int) (hli : 1 ≤ li ∧ li ≤ 256) (hB : bkOk [b0, b1, b2, b3, b4, b5, b6, b7, b8, b9, b10, b11, b12, b13, b14, b15, b16, b17, b18, b19, b20, b21, b22, b23]) (hv : 0 ≤ v ∧ v < 4194304) (hk : lnB v = 6) : Fun 6 [.agg [iC li, .d (D.lit (.slice none 0 0)), iC 0, iC 0, iC 0, iC 0, iC 0, iC 0, iC b0, iC b1, iC b2, iC b3, iC b4, iC b5, iC b6, iC b7, iC b8, iC b9, iC b10, iC b11, iC b12, iC b13, iC b14, iC b15, iC b16, iC b17, iC b18, iC b19, iC b20, iC b21, iC b22, iC b23], iE v] (toG []) 0 (.tup [.agg [iC li, .d (D.lit (.slice none 0 0)), iC 0, iC 0, iC 0, iC 0, iC 0, iC 0, iC b0, iC b1, iC b2, iC b3, iC b4, iC b5, iC (b6 + 1), iC b7, iC b8, iC b9, iC b10, iC b11, iC b12, iC b13, iC b14, iC b15, iC b16, iC b17, iC b18, iC b19, iC b20, iC b21, iC b22, iC b23], iE 0]) (toG []) 0 := by
  have hb0 : 0 ≤ b0 ∧ b0 ≤ 1000 := hB 0 (by omega)
  have hb1 : 0 ≤ b1 ∧ b1 ≤ 1000 := hB 1 (by omega)
  have hb2 : 0 ≤ b2 ∧ b2 ≤ 1000 := hB 2 (by omega)
  have hb3 : 0 ≤ b3 ∧ b3 ≤ 1000 := hB 3 (by omega)
  have hb4 : 0 ≤ b4 ∧ b4 ≤ 1000 := hB 4 (by omega)
  have hb5 : 0 ≤ b5 ∧ b5 ≤ 1000 := hB 5 (by omega)
  have hb6 : 0 ≤ b6 ∧ b6 ≤ 1000 := hB 6 (by omega)
  have hb7 : 0 ≤ b7 ∧ b7 ≤ 1000 := hB 7 (by omega)
  have hb8 : 0 ≤ b8 ∧ b8 ≤ 1000 := hB 8 (by omega)
  have hb9 : 0 ≤ b9 ∧ b9 ≤ 1000 := hB 9 (by omega)
  have hb10 : 0 ≤ b10 ∧ b10 ≤ 1000 := hB 10 (by omega)
  have hb11 : 0 ≤ b11 ∧ b11 ≤ 1000 := hB 11 (by omega)
  have hb12 : 0 ≤ b12 ∧ b12 ≤ 1000 := hB 12 (by omega)
  have hb13 : 0 ≤ b13 ∧ b13 ≤ 1000 := hB 13 (by omega)
  have hb14 : 0 ≤ b14 ∧ b14 ≤ 1000 := hB 14 (by omega)
  have hb15 : 0 ≤ b15 ∧ b15 ≤ 1000 := hB 15 (by omega)
  have hb16 : 0 ≤ b16 ∧ b16 ≤ 1000 := hB 16 (by omega)
  have hb17 : 0 ≤ b17 ∧ b17 ≤ 1000 := hB 17 (by omega)
  have hb18 : 0 ≤ b18 ∧ b18 ≤ 1000 := hB 18 (by omega)
  have hb19 : 0 ≤ b19 ∧ b19 ≤ 1000 := hB 19 (by omega)
  have hb20 : 0 ≤ b20 ∧ b20 ≤ 1000 := hB 20 (by omega)
  have hb21 : 0 ≤ b21 ∧ b21 ≤ 1000 := hB 21 (by omega)
  have hb22 : 0 ≤ b22 ∧ b22 ≤ 1000 := hB 22 (by omega)
  have hb23 : 0 ≤ b23 ∧ b23 ≤ 1000 := hB 23 (by omega)
  refine Fun.mk (n := 29) Try.func6 rfl rfl (Nat.le_of_ble_eq_true rfl) ?_
  intro cx hcx
  refine AW.rgs [.no, .no, .no] [1, 2, 4] [0, 1] (P := True) (l' := [(1, iV v), (2, rV 0 0), (4, rV 1 0)]) (g' := [(0, some (28, .ds [iD li, D.lit (.slice none 0 0), iD 0, iD 0, iD 0, iD 0, iD 0, iD 0, iD b0, iD b1, iD b2, iD b3, iD b4, iD b5, iD b6, iD b7, iD b8, iD b9, iD b10, iD b11, iD b12, iD b13, iD b14, iD b15, iD b16, iD b17, iD b18, iD b19, iD b20, iD b21, iD b22, iD b23])), (1, some (28, .ds [iD 0, D.lit (.slice none 0 0), iD 0, iD 0, iD 0, iD 0, iD 0, iD 0, iD 0, iD 0, iD 0, iD 0, iD 0, iD 0, iD 0, iD 0, iD 0, iD 0, iD 0, iD 0, iD 0, iD 0, iD 0, iD 0, iD 0, iD 0, iD 0, iD 0, iD 0, iD 0, iD 0, iD 0]))]) (nx' := 2) (by kernel_rfl) trivial ?_
  refine AW.seq ?_
  refine AW.rgs [.no, .call [] (bV true) [] 0 [some [D.lit (.bool true)]] none, .no] [1, 2, 4, 9] [0, 1] (P := (_)) (l' := [(1, iV v), (2, rV 0 0), (4, rV 1 0), (9, bV false)]) (g' := [(0, some (28, .ds [iD li, D.lit (.slice none 0 0), iD 0, iD 0, iD 0, iD 0, iD 0, iD 0, iD b0, iD b1, iD b2, iD b3, iD b4, iD b5, iD b6, iD b7, iD b8, iD b9, iD b10, iD b11, iD b12, iD b13, iD b14, iD b15, iD b16, iD b17, iD b18, iD b19, iD b20, iD b21, iD b22, iD b23])), (1, some (28, .ds [iD 0, D.lit (.slice none 0 0), iD 0, iD 0, iD 0, iD 0, iD 0, iD 0, iD 0, iD 0, iD 0, iD 0, iD 0, iD 0, iD 0, iD 0, iD 0, iD 0, iD 0, iD 0, iD 0, iD 0, iD 0, iD 0, iD 0, iD 0, iD 0, iD 0, iD 0, iD 0, iD 0, iD 0]))]) (nx' := 2) (by kernel_rfl) (R_val li b0 b1 b2 b3 b4 b5 b6 b7 b8 b9 b10 b11 b12 b13 b14 b15 b16 b17 b18 b19 b20 b21 b22 b23 (by omega) (by first | omega | with_reducible assumption | (simp <;> omega) | rfl | assumption)) ?_
  refine AW.cond_f (.tmp (Look.of rfl)) ?_
  refine AW.skip ?_
  refine AW.seq ?_
  refine AW.rgs [.no, .b false] [1, 2, 4, 12] [0, 1] (P := (¬ (v < 0))) (l' := [(1, iV v), (2, rV 0 0), (4, rV 1 0), (12, bV false)]) (g' := [(0, some (28, .ds [iD li, D.lit (.slice none 0 0), iD 0, iD 0, iD 0, iD 0, iD 0, iD 0, iD b0, iD b1, iD b2, iD b3, iD b4, iD b5, iD b6, iD b7, iD b8, iD b9, iD b10, iD b11, iD b12, iD b13, iD b14, iD b15, iD b16, iD b17, iD b18, iD b19, iD b20, iD b21, iD b22, iD b23])), (1, some (28, .ds [iD 0, D.lit (.slice none 0 0), iD 0, iD 0, iD 0, iD 0, iD 0, iD 0, iD 0, iD 0, iD 0, iD 0, iD 0, iD 0, iD 0, iD 0, iD 0, iD 0, iD 0, iD 0, iD 0, iD 0, iD 0, iD 0, iD 0, iD 0, iD 0, iD 0, iD 0, iD 0, iD 0, iD 0]))]) (nx' := 2) (by kernel_rfl) (by omega) ?_
  refine AW.cond_f (.tmp (Look.of rfl)) ?_
  refine AW.skip ?_
  refine AW.rgs [.no, .call [] (.e (.agg [iC li, .d (D.lit (.slice none 0 0)), iC 0, iC 0, iC 0, iC 0, iC 0, iC 0, iC b0, iC b1, iC b2, iC b3, iC b4, iC b5, iC b6, iC b7, iC b8, iC b9, iC b10, iC b11, iC b12, iC b13, iC b14, iC b15, iC b16, iC b17, iC b18, iC b19, iC b20, iC b21, iC b22, iC b23])) [] 0 [some [D.lit (.bool true)]] none, .no] [1, 2, 4] [0, 1] (P := (_)) (l' := [(1, iV v), (2, rV 0 0), (4, rV 1 0)]) (g' := [(0, some (28, .ds [iD li, D.lit (.slice none 0 0), iD 0, iD 0, iD 0, iD 0, iD 0, iD 0, iD b0, iD b1, iD b2, iD b3, iD b4, iD b5, iD b6, iD b7, iD b8, iD b9, iD b10, iD b11, iD b12, iD b13, iD b14, iD b15, iD b16, iD b17, iD b18, iD b19, iD b20, iD b21, iD b22, iD b23])), (1, some (28, .ds [iD 0, D.lit (.slice none 0 0), iD 0, iD 0, iD 0, iD 0, iD 0, iD 0, iD 0, iD 0, iD 0, iD 0, iD 0, iD 0, iD 0, iD 0, iD 0, iD 0, iD 0, iD 0, iD 0, iD 0, iD 0, iD 0, iD 0, iD 0, iD 0, iD 0, iD 0, iD 0, iD 0, iD 0]))]) (nx' := 2) (by kernel_rfl) (R_fr li b0 b1 b2 b3 b4 b5 b6 b7 b8 b9 b10 b11 b12 b13 b14 b15 b16 b17 b18 b19 b20 b21 b22 b23) ?_
  have hx1 : ((lnB v) ≤ 22) := (ln_22 ((by omega)))
  refine AW.rgs [.no, .w, .call [] (iV (((lnB v) : Nat) : Int)) [] 0 [] none, .no, .no] [2, 4, 6] [0, 1] (P := (0 ≤ v ∧ v ≤ 18446744073709551615) ∧ (_)) (l' := [(2, rV 0 0), (4, rV 1 0), (6, iV (min (((lnB v) : Nat) : Int) 23))]) (g' := [(0, some (28, .ds [iD li, D.lit (.slice none 0 0), iD 0, iD 0, iD 0, iD 0, iD 0, iD 0, iD b0, iD b1, iD b2, iD b3, iD b4, iD b5, iD b6, iD b7, iD b8, iD b9, iD b10, iD b11, iD b12, iD b13, iD b14, iD b15, iD b16, iD b17, iD b18, iD b19, iD b20, iD b21, iD b22, iD b23])), (1, some (28, .ds [iD 0, D.lit (.slice none 0 0), iD 0, iD 0, iD 0, iD 0, iD 0, iD 0, iD 0, iD 0, iD 0, iD 0, iD 0, iD 0, iD 0, iD 0, iD 0, iD 0, iD 0, iD 0, iD 0, iD 0, iD 0, iD 0, iD 0, iD 0, iD 0, iD 0, iD 0, iD 0, iD 0, iD 0]))]) (nx' := 2) (by kernel_rfl) ⟨⟨by omega, by omega⟩, (R_Len v (by omega))⟩ ?_
  refine AW.rgs [.no, .no, .no, .n2 6 14, .no, .call [] (iV (b6 + 1)) [] 0 [] none, .no, .n2 6 14, .no] [2, 4] [0, 1] (P := (((min (((lnB v) : Nat) : Int) 23) : Int) = 6) ∧ ((6 : Nat) < 24) ∧ ((8 : Nat) + 6 * 1 = 14) ∧ (_) ∧ (((min (((lnB v) : Nat) : Int) 23) : Int) = 6) ∧ ((6 : Nat) < 24) ∧ ((8 : Nat) + 6 * 1 = 14)) (l' := [(2, rV 0 0), (4, rV 1 0)]) (g' := [(0, some (28, .ds [iD li, D.lit (.slice none 0 0), iD 0, iD 0, iD 0, iD 0, iD 0, iD 0, iD b0, iD b1, iD b2, iD b3, iD b4, iD b5, iD (b6 + 1), iD b7, iD b8, iD b9, iD b10, iD b11, iD b12, iD b13, iD b14, iD b15, iD b16, iD b17, iD b18, iD b19, iD b20, iD b21, iD b22, iD b23])), (1, some (28, .ds [iD 0, D.lit (.slice none 0 0), iD 0, iD 0, iD 0, iD 0, iD 0, iD 0, iD 0, iD 0, iD 0, iD 0, iD 0, iD 0, iD 0, iD 0, iD 0, iD 0, iD 0, iD 0, iD 0, iD 0, iD 0, iD 0, iD 0, iD 0, iD 0, iD 0, iD 0, iD 0, iD 0, iD 0]))]) (nx' := 2) (by kernel_rfl) ⟨(by first | rfl | omega), (by omega), (by omega), (R_ctd b6 (by omega)), (by first | rfl | omega), (by omega), (by omega)⟩ ?_
  refine AW.rgs [.no, .no, .no] [4, 5] [1] (P := True) (l' := [(4, rV 1 0), (5, iV 0)]) (g' := [(1, some (28, .ds [iD li, D.lit (.slice none 0 0), iD 0, iD 0, iD 0, iD 0, iD 0, iD 0, iD b0, iD b1, iD b2, iD b3, iD b4, iD b5, iD (b6 + 1), iD b7, iD b8, iD b9, iD b10, iD b11, iD b12, iD b13, iD b14, iD b15, iD b16, iD b17, iD b18, iD b19, iD b20, iD b21, iD b22, iD b23]))]) (nx' := 2) (by kernel_rfl) trivial ?_
  refine AW.ret ?_
  exact EndP.of (.inr rfl) [] (P := ((li : Int) = li) ∧ ((.slice none 0 0 : Value) = .slice none 0 0) ∧ ((0 : Int) = 0) ∧ ((0 : Int) = 0) ∧ ((0 : Int) = 0) ∧ ((0 : Int) = 0) ∧ ((0 : Int) = 0) ∧ ((0 : Int) = 0) ∧ ((b0 : Int) = b0) ∧ ((b1 : Int) = b1) ∧ ((b2 : Int) = b2) ∧ ((b3 : Int) = b3) ∧ ((b4 : Int) = b4) ∧ ((b5 : Int) = b5) ∧ (((b6 + 1) : Int) = (b6 + 1)) ∧ ((b7 : Int) = b7) ∧ ((b8 : Int) = b8) ∧ ((b9 : Int) = b9) ∧ ((b10 : Int) = b10) ∧ ((b11 : Int) = b11) ∧ ((b12 : Int) = b12) ∧ ((b13 : Int) = b13) ∧ ((b14 : Int) = b14) ∧ ((b15 : Int) = b15) ∧ ((b16 : Int) = b16) ∧ ((b17 : Int) = b17) ∧ ((b18 : Int) = b18) ∧ ((b19 : Int) = b19) ∧ ((b20 : Int) = b20) ∧ ((b21 : Int) = b21) ∧ ((b22 : Int) = b22) ∧ ((b23 : Int) = b23) ∧ ((0 : Int) = 0)) (by kernel_rfl) ⟨rfl, rfl, rfl, rfl, rfl, rfl, rfl, rfl, rfl, rfl, rfl, rfl, rfl, rfl, rfl, rfl, rfl, rfl, rfl, rfl, rfl, rfl, rfl, rfl, rfl, rfl, rfl, rfl, rfl, rfl, rfl, rfl, rfl⟩

set_option maxHeartbeats 4000000 in
set_option maxRecDepth 100000 in
theorem R_ms7 (li b0 b1 b2 b3 b4 b5 b6 b7 b8 b9 b10 b11 b12 b13 b14 b15 b16 b17 b18 b19 b20 b21 b22 b23 v : Int) (hli : 1 ≤ li ∧ li ≤ 256) (hB : bkOk [b0, b1, b2, b3, b4, b5, b6, b7, b8, b9, b10, b11, b12, b13, b14, b15, b16, b17, b18, b19, b20, b21, b22, b23]) (hv : 0 ≤ v ∧ v < 4194304) (hk : lnB v = 7) : Fun 6 [.agg [iC li, .d (D.lit (.slice none 0 0)), iC 0, iC 0, iC 0, iC 0, iC 0, iC 0, iC b0, iC b1, iC b2, iC b3, iC b4, iC b5, iC b6, iC b7, iC b8, iC b9, iC b10, iC b11, iC b12, iC b13, iC b14, iC b15, iC b16, iC b17, iC b18, iC b19, iC b20, iC b21, iC b22, iC b23], iE v] (toG []) 0 (.tup [.agg [iC li, .d (D.lit (.slice none 0 0)), iC 0, iC 0, iC 0, iC 0, iC 0, iC 0, iC b0, iC b1, iC b2, iC b3, iC b4, iC b5, iC b6, iC (b7 + 1), iC b8, iC b9, iC b10, iC b11, iC b12, iC b13, iC b14, iC b15, iC b16, iC b17, iC b18, iC b19, iC b20, iC b21, iC b22, iC b23], iE 0]) (toG []) 0 := by
  have hb0 : 0 ≤ b0 ∧ b0 ≤ 1000 := hB 0 (by omega)
  have hb1 : 0 ≤ b1 ∧ b1 ≤ 1000 := hB 1 (by omega)
  have hb2 : 0 ≤ b2 ∧ b2 ≤ 1000 := hB 2 (by omega)
  have hb3 : 0 ≤ b3 ∧ b3 ≤ 1000 := hB 3 (by omega)
  have hb4 : 0 ≤ b4 ∧ b4 ≤ 1000 := hB 4 (by omega)
  have hb5 : 0 ≤ b5 ∧ b5 ≤ 1000 := hB 5 (by omega)
  have hb6 : 0 ≤ b6 ∧ b6 ≤ 1000 := hB 6 (by omega)
  have hb7 : 0 ≤ b7 ∧ b7 ≤ 1000 := hB 7 (by omega)
  have hb8 : 0 ≤ b8 ∧ b8 ≤ 1000 := hB 8 (by omega)
  have hb9 : 0 ≤ b9 ∧ b9 ≤ 1000 := hB 9 (by omega)
  have hb10 : 0 ≤ b10 ∧ b10 ≤ 1000 := hB 10 (by omega)
  have hb11 : 0 ≤ b11 ∧ b11 ≤ 1000 := hB 11 (by omega)
  have hb12 : 0 ≤ b12 ∧ b12 ≤ 1000 := hB 12 (by omega)
  have hb13 : 0 ≤ b13 ∧ b13 ≤ 1000 := hB 13 (by omega)
  have hb14 : 0 ≤ b14 ∧ b14 ≤ 1000 := hB 14 (by omega)
  have hb15 : 0 ≤ b15 ∧ b15 ≤ 1000 := hB 15 (by omega)
  have hb16 : 0 ≤ b16 ∧ b16 ≤ 1000 := hB 16 (by omega)
  have hb17 : 0 ≤ b17 ∧ b17 ≤ 1000 := hB 17 (by omega)
  have hb18 : 0 ≤ b18 ∧ b18 ≤ 1000 := hB 18 (by omega)
  have hb19 : 0 ≤ b19 ∧ b19 ≤ 1000 := hB 19 (by omega)
  have hb20 : 0 ≤ b20 ∧ b20 ≤ 1000 := hB 20 (by omega)
  have hb21 : 0 ≤ b21 ∧ b21 ≤ 1000 := hB 21 (by omega)
  have hb22 : 0 ≤ b22 ∧ b22 ≤ 1000 := hB 22 (by omega)
  have hb23 : 0 ≤ b23 ∧ b23 ≤ 1000 := hB 23 (by omega)
  refine Fun.mk (n := 29) Try.func6 rfl rfl (Nat.le_of_ble_eq_true rfl) ?_
  intro cx hcx
  refine AW.rgs [.no, .no, .no] [1, 2, 4] [0, 1] (P := True) (l' := [(1, iV v), (2, rV 0 0), (4, rV 1 0)]) (g' := [(0, some (28, .ds [iD li, D.lit (.slice none 0 0), iD 0, iD 0, iD 0, iD 0, iD 0, iD 0, iD b0, iD b1, iD b2, iD b3, iD b4, iD b5, iD b6, iD b7, iD b8, iD b9, iD b10, iD b11, iD b12, iD b13, iD b14, iD b15, iD b16, iD b17, iD b18, iD b19, iD b20, iD b21, iD b22, iD b23])), (1, some (28, .ds [iD 0, D.lit (.slice none 0 0), iD 0, iD 0, iD 0, iD 0, iD 0, iD 0, iD 0, iD 0, iD 0, iD 0, iD 0, iD 0, iD 0, iD 0, iD 0, iD 0, iD 0, iD 0, iD 0, iD 0, iD 0, iD 0, iD 0, iD 0, iD 0, iD 0, iD 0, iD 0, iD 0, iD 0]))]) (nx' := 2) (by kernel_rfl) trivial ?_
  refine AW.seq ?_
  refine AW.rgs [.no, .call [] (bV true) [] 0 [some [D.lit (.bool true)]] none, .no] [1, 2, 4, 9] [0, 1] (P := (_)) (l' := [(1, iV v), (2, rV 0 0), (4, rV 1 0), (9, bV false)]) (g' := [(0, some (28, .ds [iD li, D.lit (.slice none 0 0), iD 0, iD 0, iD 0, iD 0, iD 0, iD 0, iD b0, iD b1, iD b2, iD b3, iD b4, iD b5, iD b6, iD b7, iD b8, iD b9, iD b10, iD b11, iD b12, iD b13, iD b14, iD b15, iD b16, iD b17, iD b18, iD b19, iD b20, iD b21, iD b22, iD b23])), (1, some (28, .ds [iD 0, D.lit (.slice none 0 0), iD 0, iD 0, iD 0, iD 0, iD 0, iD 0, iD 0, iD 0, iD 0, iD 0, iD 0, iD 0, iD 0, iD 0, iD 0, iD 0, iD 0, iD 0, iD 0, iD 0, iD 0, iD 0, iD 0, iD 0, iD 0, iD 0, iD 0, iD 0, iD 0, iD 0]))]) (nx' := 2) (by kernel_rfl) (R_val li b0 b1 b2 b3 b4 b5 b6 b7 b8 b9 b10 b11 b12 b13 b14 b15 b16 b17 b18 b19 b20 b21 b22 b23 (by omega) (by first | omega | with_reducible assumption | (simp <;> omega) | rfl | assumption)) ?_
  refine AW.cond_f (.tmp (Look.of rfl)) ?_
  refine AW.skip ?_
  refine AW.seq ?_
  refine AW.rgs [.no, .b false] [1, 2, 4, 12] [0, 1] (P := (¬ (v < 0))) (l' := [(1, iV v), (2, rV 0 0), (4, rV 1 0), (12, bV false)]) (g' := [(0, some (28, .ds [iD li, D.lit (.slice none 0 0), iD 0, iD 0, iD 0, iD 0, iD 0, iD 0, iD b0, iD b1, iD b2, iD b3, iD b4, iD b5, iD b6, iD b7, iD b8, iD b9, iD b10, iD b11, iD b12, iD b13, iD b14, iD b15, iD b16, iD b17, iD b18, iD b19, iD b20, iD b21, iD b22, iD b23])), (1, some (28, .ds [iD 0, D.lit (.slice none 0 0), iD 0, iD 0, iD 0, iD 0, iD 0, iD 0, iD 0, iD 0, iD 0, iD 0, iD 0, iD 0, iD 0, iD 0, iD 0, iD 0, iD 0, iD 0, iD 0, iD 0, iD 0, iD 0, iD 0, iD 0, iD 0, iD 0, iD 0, iD 0, iD 0, iD 0]))]) (nx' := 2) (by kernel_rfl) (by omega) ?_
  refine AW.cond_f (.tmp (Look.of rfl)) ?_
  refine AW.skip ?_
  refine AW.rgs [.no, .call [] (.e (.agg [iC li, .d (D.lit (.slice none 0 0)), iC 0, iC 0, iC 0, iC 0, iC 0, iC 0, iC b0, iC b1, iC b2, iC b3, iC b4, iC b5, iC b6, iC b7, iC b8, iC b9, iC b10, iC b11, iC b12, iC b13, iC b14, iC b15, iC b16, iC b17, iC b18, iC b19, iC b20, iC b21, iC b22, iC b23])) [] 0 [some [D.lit (.bool true)]] none, .no] [1, 2, 4] [0, 1] (P := (_)) (l' := [(1, iV v), (2, rV 0 0), (4, rV 1 0)]) (g' := [(0, some (28, .ds [iD li, D.lit (.slice none 0 0), iD 0, iD 0, iD 0, iD 0, iD 0, iD 0, iD b0, iD b1, iD b2, iD b3, iD b4, iD b5, iD b6, iD b7, iD b8, iD b9, iD b10, iD b11, iD b12, iD b13, iD b14, iD b15, iD b16, iD b17, iD b18, iD b19, iD b20, iD b21, iD b22, iD b23])), (1, some (28, .ds [iD 0, D.lit (.slice none 0 0), iD 0, iD 0, iD 0, iD 0, iD 0, iD 0, iD 0, iD 0, iD 0, iD 0, iD 0, iD 0, iD 0, iD 0, iD 0, iD 0, iD 0, iD 0, iD 0, iD 0, iD 0, iD 0, iD 0, iD 0, iD 0, iD 0, iD 0, iD 0, iD 0, iD 0]))]) (nx' := 2) (by kernel_rfl) (R_fr li b0 b1 b2 b3 b4 b5 b6 b7 b8 b9 b10 b11 b12 b13 b14 b15 b16 b17 b18 b19 b20 b21 b22 b23) ?_
  have hx1 : ((lnB v) ≤ 22) := (ln_22 ((by omega)))
  refine AW.rgs [.no, .w, .call [] (iV (((lnB v) : Nat) : Int)) [] 0 [] none, .no, .no] [2, 4, 6] [0, 1] (P := (0 ≤ v ∧ v ≤ 18446744073709551615) ∧ (_)) (l' := [(2, rV 0 0), (4, rV 1 0), (6, iV (min (((lnB v) : Nat) : Int) 23))]) (g' := [(0, some (28, .ds [iD li, D.lit (.slice none 0 0), iD 0, iD 0, iD 0, iD 0, iD 0, iD 0, iD b0, iD b1, iD b2, iD b3, iD b4, iD b5, iD b6, iD b7, iD b8, iD b9, iD b10, iD b11, iD b12, iD b13, iD b14, iD b15, iD b16, iD b17, iD b18, iD b19, iD b20, iD b21, iD b22, iD b23])), (1, some (28, .ds [iD 0, D.lit (.slice none 0 0), iD 0, iD 0, iD 0, iD 0, iD 0, iD 0, iD 0, iD 0, iD 0, iD 0, iD 0, iD 0, iD 0, iD 0, iD 0, iD 0, iD 0, iD 0, iD 0, iD 0, iD 0, iD 0, iD 0, iD 0, iD 0, iD 0, iD 0, iD 0, iD 0, iD 0]))]) (nx' := 2) (by kernel_rfl) ⟨⟨by omega, by omega⟩, (R_Len v (by omega))⟩ ?_
  refine AW.rgs [.no, .no, .no, .n2 7 15, .no, .call [] (iV (b7 + 1)) [] 0 [] none, .no, .n2 7 15, .no] [2, 4] [0, 1] (P := (((min (((lnB v) : Nat) : Int) 23) : Int) = 7) ∧ ((7 : Nat) < 24) ∧ ((8 : Nat) + 7 * 1 = 15) ∧ (_) ∧ (((min (((lnB v) : Nat) : Int) 23) : Int) = 7) ∧ ((7 : Nat) < 24) ∧ ((8 : Nat) + 7 * 1 = 15)) (l' := [(2, rV 0 0), (4, rV 1 0)]) (g' := [(0, some (28, .ds [iD li, D.lit (.slice none 0 0), iD 0, iD 0, iD 0, iD 0, iD 0, iD 0, iD b0, iD b1, iD b2, iD b3, iD b4, iD b5, iD b6, iD (b7 + 1), iD b8, iD b9, iD b10, iD b11, iD b12, iD b13, iD b14, iD b15, iD b16, iD b17, iD b18, iD b19, iD b20, iD b21, iD b22, iD b23])), (1, some (28, .ds [iD 0, D.lit (.slice none 0 0), iD 0, iD 0, iD 0, iD 0, iD 0, iD 0, iD 0, iD 0, iD 0, iD 0, iD 0, iD 0, iD 0, iD 0, iD 0, iD 0, iD 0, iD 0, iD 0, iD 0, iD 0, iD 0, iD 0, iD 0, iD 0, iD 0, iD 0, iD 0, iD 0, iD 0]))]) (nx' := 2) (by kernel_rfl) ⟨(by first | rfl | omega), (by omega), (by omega), (R_ctd b7 (by omega)), (by first | rfl | omega), (by omega), (by omega)⟩ ?_
  refine AW.rgs [.no, .no, .no] [4, 5] [1] (P := True) (l' := [(4, rV 1 0), (5, iV 0)]) (g' := [(1, some (28, .ds [iD li, D.lit (.slice none 0 0), iD 0, iD 0, iD 0, iD 0, iD 0, iD 0, iD b0, iD b1, iD b2, iD b3, iD b4, iD b5, iD b6, iD (b7 + 1), iD b8, iD b9, iD b10, iD b11, iD b12, iD b13, iD b14, iD b15, iD b16, iD b17, iD b18, iD b19, iD b20, iD b21, iD b22, iD b23]))]) (nx' := 2) (by kernel_rfl) trivial ?_
  refine AW.ret ?_
  exact EndP.of (.inr rfl) [] (P := ((li : Int) = li) ∧ ((.slice none 0 0 : Value) = .slice none 0 0) ∧ ((0 : Int) = 0) ∧ ((0 : Int) = 0) ∧ ((0 : Int) = 0) ∧ ((0 : Int) = 0) ∧ ((0 : Int) = 0) ∧ ((0 : Int) = 0) ∧ ((b0 : Int) = b0) ∧ ((b1 : Int) = b1) ∧ ((b2 : Int) = b2) ∧ ((b3 : Int) = b3) ∧ ((b4 : Int) = b4) ∧ ((b5 : Int) = b5) ∧ ((b6 : Int) = b6) ∧ (((b7 + 1) : Int) = (b7 + 1)) ∧ ((b8 : Int) = b8) ∧ ((b9 : Int) = b9) ∧ ((b10 : Int) = b10) ∧ ((b11 : Int) = b11) ∧ ((b12 : Int) = b12) ∧ ((b13 : Int) = b13) ∧ ((b14 : Int) = b14) ∧ ((b15 : Int) = b15) ∧ ((b16 : Int) = b16) ∧ ((b17 : Int) = b17) ∧ ((b18 : Int) = b18) ∧ ((b19 : Int) = b19) ∧ ((b20 : Int) = b20) ∧ ((b21 : Int) = b21) ∧ ((b22 : Int) = b22) ∧ ((b23 : Int) = b23) ∧ ((0 : Int) = 0)) (by kernel_rfl) ⟨rfl, rfl, rfl, rfl, rfl, rfl, rfl, rfl, rfl, rfl, rfl, rfl, rfl, rfl, rfl, rfl, rfl, rfl, rfl, rfl, rfl, rfl, rfl, rfl, rfl, rfl, rfl, rfl, rfl, rfl, rfl, rfl, rfl⟩

set_option maxHeartbeats 4000000 in
set_option maxRecDepth 100000 in
theorem R_ms8 (li b0 b1 b2 b3 b4 b5 b6 b7 b8 b9 b10 b11 b12 b13 b14 b15 b16 b17 b18 b19 b20 b21 b22 b23 v : Int) (hli : 1 ≤ li ∧ li ≤ 256) (hB : bkOk [b0, b1, b2, b3, b4, b5, b6, b7, b8, b9, b10, b11, b12, b13, b14, b15, b16, b17, b18, b19, b20, b21, b22, b23]) (hv : 0 ≤ v ∧ v < 4194304) (hk : lnB v = 8) : Fun 6 [.agg [iC li, .d (D.lit (.slice none 0 0)), iC 0, iC 0, iC 0, iC 0, iC 0, iC 0, iC b0, iC b1, iC b2, iC b3, iC b4, iC b5, iC b6, iC b7, iC b8, iC b9, iC b10, iC b11, iC b12, iC b13, iC b14, iC b15, iC b16, iC b17, iC b18, iC b19, iC b20, iC b21, iC b22, iC b23], iE v] (toG []) 0 (.tup [.agg [iC li, .d (D.lit (.slice none 0 0)), iC 0, iC 0, iC 0, iC 0, iC 0, iC 0, iC b0, iC b1, iC b2, iC b3, iC b4, iC b5, iC b6, iC b7, iC (b8 + 1), iC b9, iC b10, iC b11, iC b12, iC b13, iC b14, iC b15, iC b16, iC b17, iC b18, iC b19, iC b20, iC b21, iC b22, iC b23], iE 0]) (toG []) 0 := by
  have hb0 : 0 ≤ b0 ∧ b0 ≤ 1000 := hB 0 (by omega)
  have hb1 : 0 ≤ b1 ∧ b1 ≤ 1000 := hB 1 (by omega)
  have hb2 : 0 ≤ b2 ∧ b2 ≤ 1000 := hB 2 (by omega)
  have hb3 : 0 ≤ b3 ∧ b3 ≤ 1000 := hB 3 (by omega)
  have hb4 : 0 ≤ b4 ∧ b4 ≤ 1000 := hB 4 (by omega)
  have hb5 : 0 ≤ b5 ∧ b5 ≤ 1000 := hB 5 (by omega)
  have hb6 : 0 ≤ b6 ∧ b6 ≤ 1000 := hB 6 (by omega)
  have hb7 : 0 ≤ b7 ∧ b7 ≤ 1000 := hB 7 (by omega)
  have hb8 : 0 ≤ b8 ∧ b8 ≤ 1000 := hB 8 (by omega)
  have hb9 : 0 ≤ b9 ∧ b9 ≤ 1000 := hB 9 (by omega)
  have hb10 : 0 ≤ b10 ∧ b10 ≤ 1000 := hB 10 (by omega)
  have hb11 : 0 ≤ b11 ∧ b11 ≤ 1000 := hB 11 (by omega)
  have hb12 : 0 ≤ b12 ∧ b12 ≤ 1000 := hB 12 (by omega)
  have hb13 : 0 ≤ b13 ∧ b13 ≤ 1000 := hB 13 (by omega)
  have hb14 : 0 ≤ b14 ∧ b14 ≤ 1000 := hB 14 (by omega)
  have hb15 : 0 ≤ b15 ∧ b15 ≤ 1000 := hB 15 (by omega)
  have hb16 : 0 ≤ b16 ∧ b16 ≤ 1000 := hB 16 (by omega)
  have hb17 : 0 ≤ b17 ∧ b17 ≤ 1000 := hB 17 (by omega)
  have hb18 : 0 ≤ b18 ∧ b18 ≤ 1000 := hB 18 (by omega)
  have hb19 : 0 ≤ b19 ∧ b19 ≤ 1000 := hB 19 (by omega)
  have hb20 : 0 ≤ b20 ∧ b20 ≤ 1000 := hB 20 (by omega)
  have hb21 : 0 ≤ b21 ∧ b21 ≤ 1000 := hB 21 (by omega)
  have hb22 : 0 ≤ b22 ∧ b22 ≤ 1000 := hB 22 (by omega)
  have hb23 : 0 ≤ b23 ∧ b23 ≤ 1000 := hB 23 (by omega)
  refine Fun.mk (n := 29) Try.func6 rfl rfl (Nat.le_of_ble_eq_true rfl) ?_
  intro cx hcx
  refine AW.rgs [.no, .no, .no] [1, 2, 4] [0, 1] (P := True) (l' := [(1, iV v), (2, rV 0 0), (4, rV 1 0)]) (g' := [(0, some (28, .ds [iD li, D.lit (.slice none 0 0), iD 0, iD 0, iD 0, iD 0, iD 0, iD 0, iD b0, iD b1, iD b2, iD b3, iD b4, iD b5, iD b6, iD b7, iD b8, iD b9, iD b10, iD b11, iD b12, iD b13, iD b14, iD b15, iD b16, iD b17, iD b18, iD b19, iD b20, iD b21, iD b22, iD b23])), (1, some (28, .ds [iD 0, D.lit (.slice none 0 0), iD 0, iD 0, iD 0, iD 0, iD 0, iD 0, iD 0, iD 0, iD 0, iD 0, iD 0, iD 0, iD 0, iD 0, iD 0, iD 0, iD 0, iD 0, iD 0, iD 0, iD 0, iD 0, iD 0, iD 0, iD 0, iD 0, iD 0, iD 0, iD 0, iD 0]))]) (nx' := 2) (by kernel_rfl) trivial ?_
  refine AW.seq ?_
  refine AW.rgs [.no, .call [] (bV true) [] 0 [some [D.lit (.bool true)]] none, .no] [1, 2, 4, 9] [0, 1] (P := (_)) (l' := [(1, iV v), (2, rV 0 0), (4, rV 1 0), (9, bV false)]) (g' := [(0, some (28, .ds [iD li, D.lit (.slice none 0 0), iD 0, iD 0, iD 0, iD 0, iD 0, iD 0, iD b0, iD b1, iD b2, iD b3, iD b4, iD b5, iD b6, iD b7, iD b8, iD b9, iD b10, iD b11, iD b12, iD b13, iD b14, iD b15, iD b16, iD b17, iD b18, iD b19, iD b20, iD b21, iD b22, iD b23])), (1, some (28, .ds [iD 0, D.lit (.slice none 0 0), iD 0, iD 0, iD 0, iD 0, iD 0, iD 0, iD 0, iD 0, iD 0, iD 0, iD 0, iD 0, iD 0, iD 0, iD 0, iD 0, iD 0, iD 0, iD 0, iD 0, iD 0, iD 0, iD 0, iD 0, iD 0, iD 0, iD 0, iD 0, iD 0, iD 0]))]) (nx' := 2) (by kernel_rfl) (R_val li b0 b1 b2 b3 b4 b5 b6 b7 b8 b9 b10 b11 b12 b13 b14 b15 b16 b17 b18 b19 b20 b21 b22 b23 (by omega) (by first | omega | with_reducible assumption | (simp <;> omega) | rfl | assumption)) ?_
  refine AW.cond_f (.tmp (Look.of rfl)) ?_
  refine AW.skip ?_
  refine AW.seq ?_
  refine AW.rgs [.no, .b false] [1, 2, 4, 12] [0, 1] (P := (¬ (v < 0))) (l' := [(1, iV v), (2, rV 0 0), (4, rV 1 0), (12, bV false)]) (g' := [(0, some (28, .ds [iD li, D.lit (.slice none 0 0), iD 0, iD 0, iD 0, iD 0, iD 0, iD 0, iD b0, iD b1, iD b2, iD b3, iD b4, iD b5, iD b6, iD b7, iD b8, iD b9, iD b10, iD b11, iD b12, iD b13, iD b14, iD b15, iD b16, iD b17, iD b18, iD b19, iD b20, iD b21, iD b22, iD b23])), (1, some (28, .ds [iD 0, D.lit (.slice none 0 0), iD 0, iD 0, iD 0, iD 0, iD 0, iD 0, iD 0, iD 0, iD 0, iD 0, iD 0, iD 0, iD 0, iD 0, iD 0, iD 0, iD 0, iD 0, iD 0, iD 0, iD 0, iD 0, iD 0, iD 0, iD 0, iD 0, iD 0, iD 0, iD 0, iD 0]))]) (nx' := 2) (by kernel_rfl) (by omega) ?_
  refine AW.cond_f (.tmp (Look.of rfl)) ?_
  refine AW.skip ?_
  refine AW.rgs [.no, .call [] (.e (.agg [iC li, .d (D.lit (.slice none 0 0)), iC 0, iC 0, iC 0, iC 0, iC 0, iC 0, iC b0, iC b1, iC b2, iC b3, iC b4, iC b5, iC b6, iC b7, iC b8, iC b9, iC b10, iC b11, iC b12, iC b13, iC b14, iC b15, iC b16, iC b17, iC b18, iC b19, iC b20, iC b21, iC b22, iC b23])) [] 0 [some [D.lit (.bool true)]] none, .no] [1, 2, 4] [0, 1] (P := (_)) (l' := [(1, iV v), (2, rV 0 0), (4, rV 1 0)]) (g' := [(0, some (28, .ds [iD li, D.lit (.slice none 0 0), iD 0, iD 0, iD 0, iD 0, iD 0, iD 0, iD b0, iD b1, iD b2, iD b3, iD b4, iD b5, iD b6, iD b7, iD b8, iD b9, iD b10, iD b11, iD b12, iD b13, iD b14, iD b15, iD b16, iD b17, iD b18, iD b19, iD b20, iD b21, iD b22, iD b23])), (1, some (28, .ds [iD 0, D.lit (.slice none 0 0), iD 0, iD 0, iD 0, iD 0, iD 0, iD 0, iD 0, iD 0, iD 0, iD 0, iD 0, iD 0, iD 0, iD 0, iD 0, iD 0, iD 0, iD 0, iD 0, iD 0, iD 0, iD 0, iD 0, iD 0, iD 0, iD 0, iD 0, iD 0, iD 0, iD 0]))]) (nx' := 2) (by kernel_rfl) (R_fr li b0 b1 b2 b3 b4 b5 b6 b7 b8 b9 b10 b11 b12 b13 b14 b15 b16 b17 b18 b19 b20 b21 b22 b23) ?_
  have hx1 : ((lnB v) ≤ 22) := (ln_22 ((by omega)))
  refine AW.rgs [.no, .w, .call [] (iV (((lnB v) : Nat) : Int)) [] 0 [] none, .no, .no] [2, 4, 6] [0, 1] (P := (0 ≤ v ∧ v ≤ 18446744073709551615) ∧ (_)) (l' := [(2, rV 0 0), (4, rV 1 0), (6, iV (min (((lnB v) : Nat) : Int) 23))]) (g' := [(0, some (28, .ds [iD li, D.lit (.slice none 0 0), iD 0, iD 0, iD 0, iD 0, iD 0, iD 0, iD b0, iD b1, iD b2, iD b3, iD b4, iD b5, iD b6, iD b7, iD b8, iD b9, iD b10, iD b11, iD b12, iD b13, iD b14, iD b15, iD b16, iD b17, iD b18, iD b19, iD b20, iD b21, iD b22, iD b23])), (1, some (28, .ds [iD 0, D.lit (.slice none 0 0), iD 0, iD 0, iD 0, iD 0, iD 0, iD 0, iD 0, iD 0, iD 0, iD 0, iD 0, iD 0, iD 0, iD 0, iD 0, iD 0, iD 0, iD 0, iD 0, iD 0, iD 0, iD 0, iD 0, iD 0, iD 0, iD 0, iD 0, iD 0, iD 0, iD 0]))]) (nx' := 2) (by kernel_rfl) ⟨⟨by omega, by omega⟩, (R_Len v (by omega))⟩ ?_
  refine AW.rgs [.no, .no, .no, .n2 8 16, .no, .call [] (iV (b8 + 1)) [] 0 [] none, .no, .n2 8 16, .no] [2, 4] [0, 1] (P := (((min (((lnB v) : Nat) : Int) 23) : Int) = 8) ∧ ((8 : Nat) < 24) ∧ ((8 : Nat) + 8 * 1 = 16) ∧ (_) ∧ (((min (((lnB v) : Nat) : Int) 23) : Int) = 8) ∧ ((8 : Nat) < 24) ∧ ((8 : Nat) + 8 * 1 = 16)) (l' := [(2, rV 0 0), (4, rV 1 0)]) (g' := [(0, some (28, .ds [iD li, D.lit (.slice none 0 0), iD 0, iD 0, iD 0, iD 0, iD 0, iD 0, iD b0, iD b1, iD b2, iD b3, iD b4, iD b5, iD b6, iD b7, iD (b8 + 1), iD b9, iD b10, iD b11, iD b12, iD b13, iD b14, iD b15, iD b16, iD b17, iD b18, iD b19, iD b20, iD b21, iD b22, iD b23])), (1, some (28, .ds [iD 0, D.lit (.slice none 0 0), iD 0, iD 0, iD 0, iD 0, iD 0, iD 0, iD 0, iD 0, iD 0, iD 0, iD 0, iD 0, iD 0, iD 0, iD 0, iD 0, iD 0, iD 0, iD 0, iD 0, iD 0, iD 0, iD 0, iD 0, iD 0, iD 0, iD 0, iD 0, iD 0, iD 0]))]) (nx' := 2) (by kernel_rfl) ⟨(by first | rfl | omega), (by omega), (by omega), (R_ctd b8 (by omega)), (by first | rfl | omega), (by omega), (by omega)⟩ ?_
  refine AW.rgs [.no, .no, .no] [4, 5] [1] (P := True) (l' := [(4, rV 1 0), (5, iV 0)]) (g' := [(1, some (28, .ds [iD li, D.lit (.slice none 0 0), iD 0, iD 0, iD 0, iD 0, iD 0, iD 0, iD b0, iD b1, iD b2, iD b3, iD b4, iD b5, iD b6, iD b7, iD (b8 + 1), iD b9, iD b10, iD b11, iD b12, iD b13, iD b14, iD b15, iD b16, iD b17, iD b18, iD b19, iD b20, iD b21, iD b22, iD b23]))]) (nx' := 2) (by kernel_rfl) trivial ?_
  refine AW.ret ?_
  exact EndP.of (.inr rfl) [] (P := ((li : Int) = li) ∧ ((.slice none 0 0 : Value) = .slice none 0 0) ∧ ((0 : Int) = 0) ∧ ((0 : Int) = 0) ∧ ((0 : Int) = 0) ∧ ((0 : Int) = 0) ∧ ((0 : Int) = 0) ∧ ((0 : Int) = 0) ∧ ((b0 : Int) = b0) ∧ ((b1 : Int) = b1) ∧ ((b2 : Int) = b2) ∧ ((b3 : Int) = b3) ∧ ((b4 : Int) = b4) ∧ ((b5 : Int) = b5) ∧ ((b6 : Int) = b6) ∧ ((b7 : Int) = b7) ∧ (((b8 + 1) : Int) = (b8 + 1)) ∧ ((b9 : Int) = b9) ∧ ((b10 : Int) = b10) ∧ ((b11 : Int) = b11) ∧ ((b12 : Int) = b12) ∧ ((b13 : Int) = b13) ∧ ((b14 : Int) = b14) ∧ ((b15 : Int) = b15) ∧ ((b16 : Int) = b16) ∧ ((b17 : Int) = b17) ∧ ((b18 : Int) = b18) ∧ ((b19 : Int) = b19) ∧ ((b20 : Int) = b20) ∧ ((b21 : Int) = b21) ∧ ((b22 : Int) = b22) ∧ ((b23 : Int) = b23) ∧ ((0 : Int) = 0)) (by kernel_rfl) ⟨rfl, rfl, rfl, rfl, rfl, rfl, rfl, rfl, rfl, rfl, rfl, rfl, rfl, rfl, rfl, rfl, rfl, rfl, rfl, rfl, rfl, rfl, rfl, rfl, rfl, rfl, rfl, rfl, rfl, rfl, rfl, rfl, rfl⟩

set_option maxHeartbeats 4000000 in
set_option maxRecDepth 100000 in
theorem R_ms9 (li b0 b1 b2 b3 b4 b5 b6 b7 b8 b9 b10 b11 b12 b13 b14 b15 b16 b17 b18 b19 b20 b21 b22 b23 v : Int) (hli : 1 ≤ li ∧ li ≤ 256) (hB : bkOk [b0, b1, b2, b3, b4, b5, b6, b7, b8, b9, b10, b11, b12, b13, b14, b15, b16, b17, b18, b19, b20, b21, b22, b23]) (hv : 0 ≤ v ∧ v < 4194304) (hk : lnB v = 9) : Fun 6 [.agg [iC li, .d (D.lit (.slice none 0 0)), iC 0, iC 0, iC 0, iC 0, iC 0, iC 0, iC b0, iC b1, iC b2, iC b3, iC b4, iC b5, iC b6, iC b7, iC b8, iC b9, iC b10, iC b11, iC b12, iC b13, iC b14, iC b15, iC b16, iC b17, iC b18, iC b19, iC b20, iC b21, iC b22, iC b23], iE v] (toG []) 0 (.tup [.agg [iC li, .d (D.lit (.slice none 0 0)), iC 0, iC 0, iC 0, iC 0, iC 0, iC 0, iC b0, iC b1, iC b2, iC b3, iC b4, iC b5, iC b6, iC b7, iC b8, iC (b9 + 1), iC b10, iC b11, iC b12, iC b13, iC b14, iC b15, iC b16, iC b17, iC b18, iC b19, iC b20, iC b21, iC b22, iC b23], iE 0]) (toG []) 0 := by
  have hb0 : 0 ≤ b0 ∧ b0 ≤ 1000 := hB 0 (by omega)
  have hb1 : 0 ≤ b1 ∧ b1 ≤ 1000 := hB 1 (by omega)
  have hb2 : 0 ≤ b2 ∧ b2 ≤ 1000 := hB 2 (by omega)
  have hb3 : 0 ≤ b3 ∧ b3 ≤ 1000 := hB 3 (by omega)
  have hb4 : 0 ≤ b4 ∧ b4 ≤ 1000 := hB 4 (by omega)
  have hb5 : 0 ≤ b5 ∧ b5 ≤ 1000 := hB 5 (by omega)
  have hb6 : 0 ≤ b6 ∧ b6 ≤ 1000 := hB 6 (by omega)
  have hb7 : 0 ≤ b7 ∧ b7 ≤ 1000 := hB 7 (by omega)
  have hb8 : 0 ≤ b8 ∧ b8 ≤ 1000 := hB 8 (by omega)
  have hb9 : 0 ≤ b9 ∧ b9 ≤ 1000 := hB 9 (by omega)
  have hb10 : 0 ≤ b10 ∧ b10 ≤ 1000 := hB 10 (by omega)
  have hb11 : 0 ≤ b11 ∧ b11 ≤ 1000 := hB 11 (by omega)
  have hb12 : 0 ≤ b12 ∧ b12 ≤ 1000 := hB 12 (by omega)
  have hb13 : 0 ≤ b13 ∧ b13 ≤ 1000 := hB 13 (by omega)
  have hb14 : 0 ≤ b14 ∧ b14 ≤ 1000 := hB 14 (by omega)
  have hb15 : 0 ≤ b15 ∧ b15 ≤ 1000 := hB 15 (by omega)
  have hb16 : 0 ≤ b16 ∧ b16 ≤ 1000 := hB 16 (by omega)
  have hb17 : 0 ≤ b17 ∧ b17 ≤ 1000 := hB 17 (by omega)
  have hb18 : 0 ≤ b18 ∧ b18 ≤ 1000 := hB 18 (by omega)
  have hb19 : 0 ≤ b19 ∧ b19 ≤ 1000 := hB 19 (by omega)
  have hb20 : 0 ≤ b20 ∧ b20 ≤ 1000 := hB 20 (by omega)
  have hb21 : 0 ≤ b21 ∧ b21 ≤ 1000 := hB 21 (by omega)
  have hb22 : 0 ≤ b22 ∧ b22 ≤ 1000 := hB 22 (by omega)
  have hb23 : 0 ≤ b23 ∧ b23 ≤ 1000 := hB 23 (by omega)
  refine Fun.mk (n := 29) Try.func6 rfl rfl (Nat.le_of_ble_eq_true rfl) ?_
  intro cx hcx
  refine AW.rgs [.no, .no, .no] [1, 2, 4] [0, 1] (P := True) (l' := [(1, iV v), (2, rV 0 0), (4, rV 1 0)]) (g' := [(0, some (28, .ds [iD li, D.lit (.slice none 0 0), iD 0, iD 0, iD 0, iD 0, iD 0, iD 0, iD b0, iD b1, iD b2, iD b3, iD b4, iD b5, iD b6, iD b7, iD b8, iD b9, iD b10, iD b11, iD b12, iD b13, iD b14, iD b15, iD b16, iD b17, iD b18, iD b19, iD b20, iD b21, iD b22, iD b23])), (1, some (28, .ds [iD 0, D.lit (.slice none 0 0), iD 0, iD 0, iD 0, iD 0, iD 0, iD 0, iD 0, iD 0, iD 0, iD 0, iD 0, iD 0, iD 0, iD 0, iD 0, iD 0, iD 0, iD 0, iD 0, iD 0, iD 0, iD 0, iD 0, iD 0, iD 0, iD 0, iD 0, iD 0, iD 0, iD 0]))]) (nx' := 2) (by kernel_rfl) trivial ?_
  refine AW.seq ?_
  refine AW.rgs [.no, .call [] (bV true) [] 0 [some [D.lit (.bool true)]] none, .no] [1, 2, 4, 9] [0, 1] (P := (_)) (l' := [(1, iV v), (2, rV 0 0), (4, rV 1 0), (9, bV false)]) (g' := [(0, some (28, .ds [iD li, D.lit (.slice none 0 0), iD 0, iD 0, iD 0, iD 0, iD 0, iD 0, iD b0, iD b1, iD b2, iD b3, iD b4, iD b5, iD b6, iD b7, iD b8, iD b9, iD b10, iD b11, iD b12, iD b13, iD b14, iD b15, iD b16, iD b17, iD b18, iD b19, iD b20, iD b21, iD b22, iD b23])), (1, some (28, .ds [iD 0, D.lit (.slice none 0 0), iD 0, iD 0, iD 0, iD 0, iD 0, iD 0, iD 0, iD 0, iD 0, iD 0, iD 0, iD 0, iD 0, iD 0, iD 0, iD 0, iD 0, iD 0, iD 0, iD 0, iD 0, iD 0, iD 0, iD 0, iD 0, iD 0, iD 0, iD 0, iD 0, iD 0]))]) (nx' := 2) (by kernel_rfl) (R_val li b0 b1 b2 b3 b4 b5 b6 b7 b8 b9 b10 b11 b12 b13 b14 b15 b16 b17 b18 b19 b20 b21 b22 b23 (by omega) (by first | omega | with_reducible assumption | (simp <;> omega) | rfl | assumption)) ?_
  refine AW.cond_f (.tmp (Look.of rfl)) ?_
  refine AW.skip ?_
  refine AW.seq ?_
  refine AW.rgs [.no, .b false] [1, 2, 4, 12] [0, 1] (P := (¬ (v < 0))) (l' := [(1, iV v), (2, rV 0 0), (4, rV 1 0), (12, bV false)]) (g' := [(0, some (28, .ds [iD li, D.lit (.slice none 0 0), iD 0, iD 0, iD 0, iD 0, iD 0, iD 0, iD b0, iD b1, iD b2, iD b3, iD b4, iD b5, iD b6, iD b7, iD b8, iD b9, iD b10, iD b11, iD b12, iD b13, iD b14, iD b15, iD b16, iD b17, iD b18, iD b19, iD b20, iD b21, iD b22, iD b23])), (1, some (28, .ds [iD 0, D.lit (.slice none 0 0), iD 0, iD 0, iD 0, iD 0, iD 0, iD 0, iD 0, iD 0, iD 0, iD 0, iD 0, iD 0, iD 0, iD 0, iD 0, iD 0, iD 0, iD 0, iD 0, iD 0, iD 0, iD 0, iD 0, iD 0, iD 0, iD 0, iD 0, iD 0, iD 0, iD 0]))]) (nx' := 2) (by kernel_rfl) (by omega) ?_
  refine AW.cond_f (.tmp (Look.of rfl)) ?_
  refine AW.skip ?_
  refine AW.rgs [.no, .call [] (.e (.agg [iC li, .d (D.lit (.slice none 0 0)), iC 0, iC 0, iC 0, iC 0, iC 0, iC 0, iC b0, iC b1, iC b2, iC b3, iC b4, iC b5, iC b6, iC b7, iC b8, iC b9, iC b10, iC b11, iC b12, iC b13, iC b14, iC b15, iC b16, iC b17, iC b18, iC b19, iC b20, iC b21, iC b22, iC b23])) [] 0 [some [D.lit (.bool true)]] none, .no] [1, 2, 4] [0, 1] (P := (_)) (l' := [(1, iV v), (2, rV 0 0), (4, rV 1 0)]) (g' := [(0, some (28, .ds [iD li, D.lit (.slice none 0 0), iD 0, iD 0, iD 0, iD 0, iD 0, iD 0, iD b0, iD b1, iD b2, iD b3, iD b4, iD b5, iD b6, iD b7, iD b8, iD b9, iD b10, iD b11, iD b12, iD b13, iD b14, iD b15, iD b16, iD b17, iD b18, iD b19, iD b20, iD b21, iD b22, iD b23])), (1, some (28, .ds [iD 0, D.lit (.slice none 0 0), iD 0, iD 0, iD 0, iD 0, iD 0, iD 0, iD 0, iD 0, iD 0, iD 0, iD 0, iD 0, iD 0, iD 0, iD 0, iD 0, iD 0, iD 0, iD 0, iD 0, iD 0, iD 0, iD 0, iD 0, iD 0, iD 0, iD 0, iD 0, iD 0, iD 0]))]) (nx' := 2) (by kernel_rfl) (R_fr li b0 b1 b2 b3 b4 b5 b6 b7 b8 b9 b10 b11 b12 b13 b14 b15 b16 b17 b18 b19 b20 b21 b22 b23) ?_
  have hx1 : ((lnB v) ≤ 22) := (ln_22 ((by omega)))
  refine AW.rgs [.no, .w, .call [] (iV (((lnB v) : Nat) : Int)) [] 0 [] none, .no, .no] [2, 4, 6] [0, 1] (P := (0 ≤ v ∧ v ≤ 18446744073709551615) ∧ (_)) (l' := [(2, rV 0 0), (4, rV 1 0), (6, iV (min (((lnB v) : Nat) : Int) 23))]) (g' := [(0, some (28, .ds [iD li, D.lit (.slice none 0 0), iD 0, iD 0, iD 0, iD 0, iD 0, iD 0, iD b0, iD b1, iD b2, iD b3, iD b4, iD b5, iD b6, iD b7, iD b8, iD b9, iD b10, iD b11, iD b12, iD b13, iD b14, iD b15, iD b16, iD b17, iD b18, iD b19, iD b20, iD b21, iD b22, iD b23])), (1, some (28, .ds [iD 0, D.lit (.slice none 0 0), iD 0, iD 0, iD 0, iD 0, iD 0, iD 0, iD 0, iD 0, iD 0, iD 0, iD 0, iD 0, iD 0, iD 0, iD 0, iD 0, iD 0, iD 0, iD 0, iD 0, iD 0, iD 0, iD 0, iD 0, iD 0, iD 0, iD 0, iD 0, iD 0, iD 0]))]) (nx' := 2) (by kernel_rfl) ⟨⟨by omega, by omega⟩, (R_Len v (by omega))⟩ ?_
  refine AW.rgs [.no, .no, .no, .n2 9 17, .no, .call [] (iV (b9 + 1)) [] 0 [] none, .no, .n2 9 17, .no] [2, 4] [0, 1] (P := (((min (((lnB v) : Nat) : Int) 23) : Int) = 9) ∧ ((9 : Nat) < 24) ∧ ((8 : Nat) + 9 * 1 = 17) ∧ (_) ∧ (((min (((lnB v) : Nat) : Int) 23) : Int) = 9) ∧ ((9 : Nat) < 24) ∧ ((8 : Nat) + 9 * 1 = 17)) (l' := [(2, rV 0 0), (4, rV 1 0)]) (g' := [(0, some (28, .ds [iD li, D.lit (.slice none 0 0), iD 0, iD 0, iD 0, iD 0, iD 0, iD 0, iD b0, iD b1, iD b2, iD b3, iD b4, iD b5, iD b6, iD b7, iD b8, iD (b9 + 1), iD b10, iD b11, iD b12, iD b13, iD b14, iD b15, iD b16, iD b17, iD b18, iD b19, iD b20, iD b21, iD b22, iD b23])), (1, some (28, .ds [iD 0, D.lit (.slice none 0 0), iD 0, iD 0, iD 0, iD 0, iD 0, iD 0, iD 0, iD 0, iD 0, iD 0, iD 0, iD 0, iD 0, iD 0, iD 0, iD 0, iD 0, iD 0, iD 0, iD 0, iD 0, iD 0, iD 0, iD 0, iD 0, iD 0, iD 0, iD 0, iD 0, iD 0]))]) (nx' := 2) (by kernel_rfl) ⟨(by first | rfl | omega), (by omega), (by omega), (R_ctd b9 (by omega)), (by first | rfl | omega), (by omega), (by omega)⟩ ?_
  refine AW.rgs [.no, .no, .no] [4, 5] [1] (P := True) (l' := [(4, rV 1 0), (5, iV 0)]) (g' := [(1, some (28, .ds [iD li, D.lit (.slice none 0 0), iD 0, iD 0, iD 0, iD 0, iD 0, iD 0, iD b0, iD b1, iD b2, iD b3, iD b4, iD b5, iD b6, iD b7, iD b8, iD (b9 + 1), iD b10, iD b11, iD b12, iD b13, iD b14, iD b15, iD b16, iD b17, iD b18, iD b19, iD b20, iD b21, iD b22, iD b23]))]) (nx' := 2) (by kernel_rfl) trivial ?_
  refine AW.ret ?_
  exact EndP.of (.inr rfl) [] (P := ((li : Int) = li) ∧ ((.slice none 0 0 : Value) = .slice none 0 0) ∧ ((0 : Int) = 0) ∧ ((0 : Int) = 0) ∧ ((0 : Int) = 0) ∧ ((0 : Int) = 0) ∧ ((0 : Int) = 0) ∧ ((0 : Int) = 0) ∧ ((b0 : Int) = b0) ∧ ((b1 : Int) = b1) ∧ ((b2 : Int) = b2) ∧ ((b3 : Int) = b3) ∧ ((b4 : Int) = b4) ∧ ((b5 : Int) = b5) ∧ ((b6 : Int) = b6) ∧ ((b7 : Int) = b7) ∧ ((b8 : Int) = b8) ∧ (((b9 + 1) : Int) = (b9 + 1)) ∧ ((b10 : Int) = b10) ∧ ((b11 : Int) = b11) ∧ ((b12 : Int) = b12) ∧ ((b13 : Int) = b13) ∧ ((b14 : Int) = b14) ∧ ((b15 : Int) = b15) ∧ ((b16 : Int) = b16) ∧ ((b17 : Int) = b17) ∧ ((b18 : Int) = b18) ∧ ((b19 : Int) = b19) ∧ ((b20 : Int) = b20) ∧ ((b21 : Int) = b21) ∧ ((b22 : Int) = b22) ∧ ((b23 : Int) = b23) ∧ ((0 : Int) = 0)) (by kernel_rfl) ⟨rfl, rfl, rfl, rfl, rfl, rfl, rfl, rfl, rfl, rfl, rfl, rfl, rfl, rfl, rfl, rfl, rfl, rfl, rfl, rfl, rfl, rfl, rfl, rfl, rfl, rfl, rfl, rfl, rfl, rfl, rfl, rfl, rfl⟩

set_option maxHeartbeats 4000000 in
set_option maxRecDepth 100000 in
theorem R_ms10 (li b0 b1 b2 b3 b4 b5 b6 b7 b8 b9 b10 b11 b12 b13 b14 b15 b16 b17 b18 b19 b20 b21 b22 b23 v : Int) (hli : 1 ≤ li ∧ li ≤ 256) (hB : bkOk [b0, b1, b2, b3, b4, b5, b6, b7, b8, b9, b10, b11, b12, b13, b14, b15, b16, b17, b18, b19, b20, b21, b22, b23]) (hv : 0 ≤ v ∧ v < 4194304) (hk : lnB v = 10) : Fun 6 [.agg [iC li, .d (D.lit (.slice none 0 0)), iC 0, iC 0, iC 0, iC 0, iC 0, iC 0, iC b0, iC b1, iC b2, iC b3, iC b4, iC b5, iC b6, iC b7, iC b8, iC b9, iC b10, iC b11, iC b12, iC b13, iC b14, iC b15, iC b16, iC b17, iC b18, iC b19, iC b20, iC b21, iC b22, iC b23], iE v] (toG []) 0 (.tup [.agg [iC li, .d (D.lit (.slice none 0 0)), iC 0, iC 0, iC 0, iC 0, iC 0, iC 0, iC b0, iC b1, iC b2, iC b3, iC b4, iC b5, iC b6, iC b7, iC b8, iC b9, iC (b10 + 1), iC b11, iC b12, iC b13, iC b14, iC b15, iC b16, iC b17, iC b18, iC b19, iC b20, iC b21, iC b22, iC b23], iE 0]) (toG []) 0 := by
  have hb0 : 0 ≤ b0 ∧ b0 ≤ 1000 := hB 0 (by omega)
  have hb1 : 0 ≤ b1 ∧ b1 ≤ 1000 := hB 1 (by omega)
  have hb2 : 0 ≤ b2 ∧ b2 ≤ 1000 := hB 2 (by omega)
  have hb3 : 0 ≤ b3 ∧ b3 ≤ 1000 := hB 3 (by omega)
  have hb4 : 0 ≤ b4 ∧ b4 ≤ 1000 := hB 4 (by omega)
  have hb5 : 0 ≤ b5 ∧ b5 ≤ 1000 := hB 5 (by omega)
  have hb6 : 0 ≤ b6 ∧ b6 ≤ 1000 := hB 6 (by omega)
  have hb7 : 0 ≤ b7 ∧ b7 ≤ 1000 := hB 7 (by omega)
  have hb8 : 0 ≤ b8 ∧ b8 ≤ 1000 := hB 8 (by omega)
  have hb9 : 0 ≤ b9 ∧ b9 ≤ 1000 := hB 9 (by omega)
  have hb10 : 0 ≤ b10 ∧ b10 ≤ 1000 := hB 10 (by omega)
  have hb11 : 0 ≤ b11 ∧ b11 ≤ 1000 := hB 11 (by omega)
  have hb12 : 0 ≤ b12 ∧ b12 ≤ 1000 := hB 12 (by omega)
  have hb13 : 0 ≤ b13 ∧ b13 ≤ 1000 := hB 13 (by omega)
  have hb14 : 0 ≤ b14 ∧ b14 ≤ 1000 := hB 14 (by omega)
  have hb15 : 0 ≤ b15 ∧ b15 ≤ 1000 := hB 15 (by omega)
  have hb16 : 0 ≤ b16 ∧ b16 ≤ 1000 := hB 16 (by omega)
  have hb17 : 0 ≤ b17 ∧ b17 ≤ 1000 := hB 17 (by omega)
  have hb18 : 0 ≤ b18 ∧ b18 ≤ 1000 := hB 18 (by omega)
  have hb19 : 0 ≤ b19 ∧ b19 ≤ 1000 := hB 19 (by omega)
  have hb20 : 0 ≤ b20 ∧ b20 ≤ 1000 := hB 20 (by omega)
  have hb21 : 0 ≤ b21 ∧ b21 ≤ 1000 := hB 21 (by omega)
  have hb22 : 0 ≤ b22 ∧ b22 ≤ 1000 := hB 22 (by omega)
  have hb23 : 0 ≤ b23 ∧ b23 ≤ 1000 := hB 23 (by omega)
  refine Fun.mk (n := 29) Try.func6 rfl rfl (Nat.le_of_ble_eq_true rfl) ?_
  intro cx hcx
  refine AW.rgs [.no, .no, .no] [1, 2, 4] [0, 1] (P := True) (l' := [(1, iV v), (2, rV 0 0), (4, rV 1 0)]) (g' := [(0, some (28, .ds [iD li, D.lit (.slice none 0 0), iD 0, iD 0, iD 0, iD 0, iD 0, iD 0, iD b0, iD b1, iD b2, iD b3, iD b4, iD b5, iD b6, iD b7, iD b8, iD b9, iD b10, iD b11, iD b12, iD b13, iD b14, iD b15, iD b16, iD b17, iD b18, iD b19, iD b20, iD b21, iD b22, iD b23])), (1, some (28, .ds [iD 0, D.lit (.slice none 0 0), iD 0, iD 0, iD 0, iD 0, iD 0, iD 0, iD 0, iD 0, iD 0, iD 0, iD 0, iD 0, iD 0, iD 0, iD 0, iD 0, iD 0, iD 0, iD 0, iD 0, iD 0, iD 0, iD 0, iD 0, iD 0, iD 0, iD 0, iD 0, iD 0, iD 0]))]) (nx' := 2) (by kernel_rfl) trivial ?_
  refine AW.seq ?_
  refine AW.rgs [.no, .call [] (bV true) [] 0 [some [D.lit (.bool true)]] none, .no] [1, 2, 4, 9] [0, 1] (P := (_)) (l' := [(1, iV v), (2, rV 0 0), (4, rV 1 0), (9, bV false)]) (g' := [(0, some (28, .ds [iD li, D.lit (.slice none 0 0), iD 0, iD 0, iD 0, iD 0, iD 0, iD 0, iD b0, iD b1, iD b2, iD b3, iD b4, iD b5, iD b6, iD b7, iD b8, iD b9, iD b10, iD b11, iD b12, iD b13, iD b14, iD b15, iD b16, iD b17, iD b18, iD b19, iD b20, iD b21, iD b22, iD b23])), (1, some (28, .ds [iD 0, D.lit (.slice none 0 0), iD 0, iD 0, iD 0, iD 0, iD 0, iD 0, iD 0, iD 0, iD 0, iD 0, iD 0, iD 0, iD 0, iD 0, iD 0, iD 0, iD 0, iD 0, iD 0, iD 0, iD 0, iD 0, iD 0, iD 0, iD 0, iD 0, iD 0, iD 0, iD 0, iD 0]))]) (nx' := 2) (by kernel_rfl) (R_val li b0 b1 b2 b3 b4 b5 b6 b7 b8 b9 b10 b11 b12 b13 b14 b15 b16 b17 b18 b19 b20 b21 b22 b23 (by omega) (by first | omega | with_reducible assumption | (simp <;> omega) | rfl | assumption)) ?_
  refine AW.cond_f (.tmp (Look.of rfl)) ?_
  refine AW.skip ?_
  refine AW.seq ?_
  refine AW.rgs [.no, .b false] [1, 2, 4, 12] [0, 1] (P := (¬ (v < 0))) (l' := [(1, iV v), (2, rV 0 0), (4, rV 1 0), (12, bV false)]) (g' := [(0, some (28, .ds [iD li, D.lit (.slice none 0 0), iD 0, iD 0, iD 0, iD 0, iD 0, iD 0, iD b0, iD b1, iD b2, iD b3, iD b4, iD b5, iD b6, iD b7, iD b8, iD b9, iD b10, iD b11, iD b12, iD b13, iD b14, iD b15, iD b16, iD b17, iD b18, iD b19, iD b20, iD b21, iD b22, iD b23])), (1, some (28, .ds [iD 0, D.lit (.slice none 0 0), iD 0, iD 0, iD 0, iD 0, iD 0, iD 0, iD 0, iD 0, iD 0, iD 0, iD 0, iD 0, iD 0, iD 0, iD 0, iD 0, iD 0, iD 0, iD 0, iD 0, iD 0, iD 0, iD 0, iD 0, iD 0, iD 0, iD 0, iD 0, iD 0, iD 0]))]) (nx' := 2) (by kernel_rfl) (by omega) ?_
  refine AW.cond_f (.tmp (Look.of rfl)) ?_
  refine AW.skip ?_
  refine AW.rgs [.no, .call [] (.e (.agg [iC li, .d (D.lit (.slice none 0 0)), iC 0, iC 0, iC 0, iC 0, iC 0, iC 0, iC b0, iC b1, iC b2, iC b3, iC b4, iC b5, iC b6, iC b7, iC b8, iC b9, iC b10, iC b11, iC b12, iC b13, iC b14, iC b15, iC b16, iC b17, iC b18, iC b19, iC b20, iC b21, iC b22, iC b23])) [] 0 [some [D.lit (.bool true)]] none, .no] [1, 2, 4] [0, 1] (P := (_)) (l' := [(1, iV v), (2, rV 0 0), (4, rV 1 0)]) (g' := [(0, some (28, .ds [iD li, D.lit (.slice none 0 0), iD 0, iD 0, iD 0, iD 0, iD 0, iD 0, iD b0, iD b1, iD b2, iD b3, iD b4, iD b5, iD b6, iD b7, iD b8, iD b9, iD b10, iD b11, iD b12, iD b13, iD b14, iD b15, iD b16, iD b17, iD b18, iD b19, iD b20, iD b21, iD b22, iD b23])), (1, some (28, .ds [iD 0, D.lit (.slice none 0 0), iD 0, iD 0, iD 0, iD 0, iD 0, iD 0, iD 0, iD 0, iD 0, iD 0, iD 0, iD 0, iD 0, iD 0, iD 0, iD 0, iD 0, iD 0, iD 0, iD 0, iD 0, iD 0, iD 0, iD 0, iD 0, iD 0, iD 0, iD 0, iD 0, iD 0]))]) (nx' := 2) (by kernel_rfl) (R_fr li b0 b1 b2 b3 b4 b5 b6 b7 b8 b9 b10 b11 b12 b13 b14 b15 b16 b17 b18 b19 b20 b21 b22 b23) ?_
  have hx1 : ((lnB v) ≤ 22) := (ln_22 ((by omega)))
  refine AW.rgs [.no, .w, .call [] (iV (((lnB v) : Nat) : Int)) [] 0 [] none, .no, .no] [2, 4, 6] [0, 1] (P := (0 ≤ v ∧ v ≤ 18446744073709551615) ∧ (_)) (l' := [(2, rV 0 0), (4, rV 1 0), (6, iV (min (((lnB v) : Nat) : Int) 23))]) (g' := [(0, some (28, .ds [iD li, D.lit (.slice none 0 0), iD 0, iD 0, iD 0, iD 0, iD 0, iD 0, iD b0, iD b1, iD b2, iD b3, iD b4, iD b5, iD b6, iD b7, iD b8, iD b9, iD b10, iD b11, iD b12, iD b13, iD b14, iD b15, iD b16, iD b17, iD b18, iD b19, iD b20, iD b21, iD b22, iD b23])), (1, some (28, .ds [iD 0, D.lit (.slice none 0 0), iD 0, iD 0, iD 0, iD 0, iD 0, iD 0, iD 0, iD 0, iD 0, iD 0, iD 0, iD 0, iD 0, iD 0, iD 0, iD 0, iD 0, iD 0, iD 0, iD 0, iD 0, iD 0, iD 0, iD 0, iD 0, iD 0, iD 0, iD 0, iD 0, iD 0]))]) (nx' := 2) (by kernel_rfl) ⟨⟨by omega, by omega⟩, (R_Len v (by omega))⟩ ?_
  refine AW.rgs [.no, .no, .no, .n2 10 18, .no, .call [] (iV (b10 + 1)) [] 0 [] none, .no, .n2 10 18, .no] [2, 4] [0, 1] (P := (((min (((lnB v) : Nat) : Int) 23) : Int) = 10) ∧ ((10 : Nat) < 24) ∧ ((8 : Nat) + 10 * 1 = 18) ∧ (_) ∧ (((min (((lnB v) : Nat) : Int) 23) : Int) = 10) ∧ ((10 : Nat) < 24) ∧ ((8 : Nat) + 10 * 1 = 18)) (l' := [(2, rV 0 0), (4, rV 1 0)]) (g' := [(0, some (28, .ds [iD li, D.lit (.slice none 0 0), iD 0, iD 0, iD 0, iD 0, iD 0, iD 0, iD b0, iD b1, iD b2, iD b3, iD b4, iD b5, iD b6, iD b7, iD b8, iD b9, iD (b10 + 1), iD b11, iD b12, iD b13, iD b14, iD b15, iD b16, iD b17, iD b18, iD b19, iD b20, iD b21, iD b22, iD b23])), (1, some (28, .ds [iD 0, D.lit (.slice none 0 0), iD 0, iD 0, iD 0, iD 0, iD 0, iD 0, iD 0, iD 0, iD 0, iD 0, iD 0, iD 0, iD 0, iD 0, iD 0, iD 0, iD 0, iD 0, iD 0, iD 0, iD 0, iD 0, iD 0, iD 0, iD 0, iD 0, iD 0, iD 0, iD 0, iD 0]))]) (nx' := 2) (by kernel_rfl) ⟨(by first | rfl | omega), (by omega), (by omega), (R_ctd b10 (by omega)), (by first | rfl | omega), (by omega), (by omega)⟩ ?_
  refine AW.rgs [.no, .no, .no] [4, 5] [1] (P := True) (l' := [(4, rV 1 0), (5, iV 0)]) (g' := [(1, some (28, .ds [iD li, D.lit (.slice none 0 0), iD 0, iD 0, iD 0, iD 0, iD 0, iD 0, iD b0, iD b1, iD b2, iD b3, iD b4, iD b5, iD b6, iD b7, iD b8, iD b9, iD (b10 + 1), iD b11, iD b12, iD b13, iD b14, iD b15, iD b16, iD b17, iD b18, iD b19, iD b20, iD b21, iD b22, iD b23]))]) (nx' := 2) (by kernel_rfl) trivial ?_
  refine AW.ret ?_
  exact EndP.of (.inr rfl) [] (P := ((li : Int) = li) ∧ ((.slice none 0 0 : Value) = .slice none 0 0) ∧ ((0 : Int) = 0) ∧ ((0 : Int) = 0) ∧ ((0 : Int) = 0) ∧ ((0 : Int) = 0) ∧ ((0 : Int) = 0) ∧ ((0 : Int) = 0) ∧ ((b0 : Int) = b0) ∧ ((b1 : Int) = b1) ∧ ((b2 : Int) = b2) ∧ ((b3 : Int) = b3) ∧ ((b4 : Int) = b4) ∧ ((b5 : Int) = b5) ∧ ((b6 : Int) = b6) ∧ ((b7 : Int) = b7) ∧ ((b8 : Int) = b8) ∧ ((b9 : Int) = b9) ∧ (((b10 + 1) : Int) = (b10 + 1)) ∧ ((b11 : Int) = b11) ∧ ((b12 : Int) = b12) ∧ ((b13 : Int) = b13) ∧ ((b14 : Int) = b14) ∧ ((b15 : Int) = b15) ∧ ((b16 : Int) = b16) ∧ ((b17 : Int) = b17) ∧ ((b18 : Int) = b18) ∧ ((b19 : Int) = b19) ∧ ((b20 : Int) = b20) ∧ ((b21 : Int) = b21) ∧ ((b22 : Int) = b22) ∧ ((b23 : Int) = b23) ∧ ((0 : Int) = 0)) (by kernel_rfl) ⟨rfl, rfl, rfl, rfl, rfl, rfl, rfl, rfl, rfl, rfl, rfl, rfl, rfl, rfl, rfl, rfl, rfl, rfl, rfl, rfl, rfl, rfl, rfl, rfl, rfl, rfl, rfl, rfl, rfl, rfl, rfl, rfl, rfl⟩

set_option maxHeartbeats 4000000 in
set_option maxRecDepth 100000 in
theorem R_ms11 (li b0 b1 b2 b3 b4 b5 b6 b7 b8 b9 b10 b11 b12 b13 b14 b15 b16 b17 b18 b19 b20 b21 b22 b23 v : Int) (hli : 1 ≤ li ∧ li ≤ 256) (hB : bkOk [b0, b1, b2, b3, b4, b5, b6, b7, b8, b9, b10, b11, b12, b13, b14, b15, b16, b17, b18, b19, b20, b21, b22, b23]) (hv : 0 ≤ v ∧ v < 4194304) (hk : lnB v = 11) : Fun 6 [.agg [iC li, .d (D.lit (.slice none 0 0)), iC 0, iC 0, iC 0, iC 0, iC 0, iC 0, iC b0, iC b1, iC b2, iC b3, iC b4, iC b5, iC b6, iC b7, iC b8, iC b9, iC b10, iC b11, iC b12, iC b13, iC b14, iC b15, iC b16, iC b17, iC b18, iC b19, iC b20, iC b21, iC b22, iC b23], iE v] (toG []) 0 (.tup [.agg [iC li, .d (D.lit (.slice none 0 0)), iC 0, iC 0, iC 0, iC 0, iC 0, iC 0, iC b0, iC b1, iC b2, iC b3, iC b4, iC b5, iC b6, iC b7, iC b8, iC b9, iC b10, iC (b11 + 1), iC b12, iC b13, iC b14, iC b15, iC b16, iC b17, iC b18, iC b19, iC b20, iC b21, iC b22, iC b23], iE 0]) (toG []) 0 := by
  have hb0 : 0 ≤ b0 ∧ b0 ≤ 1000 := hB 0 (by omega)
  have hb1 : 0 ≤ b1 ∧ b1 ≤ 1000 := hB 1 (by omega)
  have hb2 : 0 ≤ b2 ∧ b2 ≤ 1000 := hB 2 (by omega)
  have hb3 : 0 ≤ b3 ∧ b3 ≤ 1000 := hB 3 (by omega)
  have hb4 : 0 ≤ b4 ∧ b4 ≤ 1000 := hB 4 (by omega)
  have hb5 : 0 ≤ b5 ∧ b5 ≤ 1000 := hB 5 (by omega)
  have hb6 : 0 ≤ b6 ∧ b6 ≤ 1000 := hB 6 (by omega)
  have hb7 : 0 ≤ b7 ∧ b7 ≤ 1000 := hB 7 (by omega)
  have hb8 : 0 ≤ b8 ∧ b8 ≤ 1000 := hB 8 (by omega)
  have hb9 : 0 ≤ b9 ∧ b9 ≤ 1000 := hB 9 (by omega)
  have hb10 : 0 ≤ b10 ∧ b10 ≤ 1000 := hB 10 (by omega)
  have hb11 : 0 ≤ b11 ∧ b11 ≤ 1000 := hB 11 (by omega)
  have hb12 : 0 ≤ b12 ∧ b12 ≤ 1000 := hB 12 (by omega)
  have hb13 : 0 ≤ b13 ∧ b13 ≤ 1000 := hB 13 (by omega)
  have hb14 : 0 ≤ b14 ∧ b14 ≤ 1000 := hB 14 (by omega)
  have hb15 : 0 ≤ b15 ∧ b15 ≤ 1000 := hB 15 (by omega)
  have hb16 : 0 ≤ b16 ∧ b16 ≤ 1000 := hB 16 (by omega)
  have hb17 : 0 ≤ b17 ∧ b17 ≤ 1000 := hB 17 (by omega)
  have hb18 : 0 ≤ b18 ∧ b18 ≤ 1000 := hB 18 (by omega)
  have hb19 : 0 ≤ b19 ∧ b19 ≤ 1000 := hB 19 (by omega)
  have hb20 : 0 ≤ b20 ∧ b20 ≤ 1000 := hB 20 (by omega)
  have hb21 : 0 ≤ b21 ∧ b21 ≤ 1000 := hB 21 (by omega)
  have hb22 : 0 ≤ b22 ∧ b22 ≤ 1000 := hB 22 (by omega)
  have hb23 : 0 ≤ b23 ∧ b23 ≤ 1000 := hB 23 (by omega)
  refine Fun.mk (n := 29) Try.func6 rfl rfl (Nat.le_of_ble_eq_true rfl) ?_
  intro cx hcx
  refine AW.rgs [.no, .no, .no] [1, 2, 4] [0, 1] (P := True) (l' := [(1, iV v), (2, rV 0 0), (4, rV 1 0)]) (g' := [(0, some (28, .ds [iD li, D.lit (.slice none 0 0), iD 0, iD 0, iD 0, iD 0, iD 0, iD 0, iD b0, iD b1, iD b2, iD b3, iD b4, iD b5, iD b6, iD b7, iD b8, iD b9, iD b10, iD b11, iD b12, iD b13, iD b14, iD b15, iD b16, iD b17, iD b18, iD b19, iD b20, iD b21, iD b22, iD b23])), (1, some (28, .ds [iD 0, D.lit (.slice none 0 0), iD 0, iD 0, iD 0, iD 0, iD 0, iD 0, iD 0, iD 0, iD 0, iD 0, iD 0, iD 0, iD 0, iD 0, iD 0, iD 0, iD 0, iD 0, iD 0, iD 0, iD 0, iD 0, iD 0, iD 0, iD 0, iD 0, iD 0, iD 0, iD 0, iD 0]))]) (nx' := 2) (by kernel_rfl) trivial ?_
  refine AW.seq ?_
  refine AW.rgs [.no, .call [] (bV true) [] 0 [some [D.lit (.bool true)]] none, .no] [1, 2, 4, 9] [0, 1] (P := (_)) (l' := [(1, iV v), (2, rV 0 0), (4, rV 1 0), (9, bV false)]) (g' := [(0, some (28, .ds [iD li, D.lit (.slice none 0 0), iD 0, iD 0, iD 0, iD 0, iD 0, iD 0, iD b0, iD b1, iD b2, iD b3, iD b4, iD b5, iD b6, iD b7, iD b8, iD b9, iD b10, iD b11, iD b12, iD b13, iD b14, iD b15, iD b16, iD b17, iD b18, iD b19, iD b20, iD b21, iD b22, iD b23])), (1, some (28, .ds [iD 0, D.lit (.slice none 0 0), iD 0, iD 0, iD 0, iD 0, iD 0, iD 0, iD 0, iD 0, iD 0, iD 0, iD 0, iD 0, iD 0, iD 0, iD 0, iD 0, iD 0, iD 0, iD 0, iD 0, iD 0, iD 0, iD 0, iD 0, iD 0, iD 0, iD 0, iD 0, iD 0, iD 0]))]) (nx' := 2) (by kernel_rfl) (R_val li b0 b1 b2 b3 b4 b5 b6 b7 b8 b9 b10 b11 b12 b13 b14 b15 b16 b17 b18 b19 b20 b21 b22 b23 (by omega) (by first | omega | with_reducible assumption | (simp <;> omega) | rfl | assumption)) ?_
  refine AW.cond_f (.tmp (Look.of rfl)) ?_
  refine AW.skip ?_
  refine AW.seq ?_
  refine AW.rgs [.no, .b false] [1, 2, 4, 12] [0, 1] (P := (¬ (v < 0))) (l' := [(1, iV v), (2, rV 0 0), (4, rV 1 0), (12, bV false)]) (g' := [(0, some (28, .ds [iD li, D.lit (.slice none 0 0), iD 0, iD 0, iD 0, iD 0, iD 0, iD 0, iD b0, iD b1, iD b2, iD b3, iD b4, iD b5, iD b6, iD b7, iD b8, iD b9, iD b10, iD b11, iD b12, iD b13, iD b14, iD b15, iD b16, iD b17, iD b18, iD b19, iD b20, iD b21, iD b22, iD b23])), (1, some (28, .ds [iD 0, D.lit (.slice none 0 0), iD 0, iD 0, iD 0, iD 0, iD 0, iD 0, iD 0, iD 0, iD 0, iD 0, iD 0, iD 0, iD 0, iD 0, iD 0, iD 0, iD 0, iD 0, iD 0, iD 0, iD 0, iD 0, iD 0, iD 0, iD 0, iD 0, iD 0, iD 0, iD 0, iD 0]))]) (nx' := 2) (by kernel_rfl) (by omega) ?_
  refine AW.cond_f (.tmp (Look.of rfl)) ?_
  refine AW.skip ?_
  refine AW.rgs [.no, .call [] (.e (.agg [iC li, .d (D.lit (.slice none 0 0)), iC 0, iC 0, iC 0, iC 0, iC 0, iC 0, iC b0, iC b1, iC b2, iC b3, iC b4, iC b5, iC b6, iC b7, iC b8, iC b9, iC b10, iC b11, iC b12, iC b13, iC b14, iC b15, iC b16, iC b17, iC b18, iC b19, iC b20, iC b21, iC b22, iC b23])) [] 0 [some [D.lit (.bool true)]] none, .no] [1, 2, 4] [0, 1] (P := (_)) (l' := [(1, iV v), (2, rV 0 0), (4, rV 1 0)]) (g' := [(0, some (28, .ds [iD li, D.lit (.slice none 0 0), iD 0, iD 0, iD 0, iD 0, iD 0, iD 0, iD b0, iD b1, iD b2, iD b3, iD b4, iD b5, iD b6, iD b7, iD b8, iD b9, iD b10, iD b11, iD b12, iD b13, iD b14, iD b15, iD b16, iD b17, iD b18, iD b19, iD b20, iD b21, iD b22, iD b23])), (1, some (28, .ds [iD 0, D.lit (.slice none 0 0), iD 0, iD 0, iD 0, iD 0, iD 0, iD 0, iD 0, iD 0, iD 0, iD 0, iD 0, iD 0, iD 0, iD 0, iD 0, iD 0, iD 0, iD 0, iD 0, iD 0, iD 0, iD 0, iD 0, iD 0, iD 0, iD 0, iD 0, iD 0, iD 0, iD 0]))]) (nx' := 2) (by kernel_rfl) (R_fr li b0 b1 b2 b3 b4 b5 b6 b7 b8 b9 b10 b11 b12 b13 b14 b15 b16 b17 b18 b19 b20 b21 b22 b23) ?_
  have hx1 : ((lnB v) ≤ 22) := (ln_22 ((by omega)))
  refine AW.rgs [.no, .w, .call [] (iV (((lnB v) : Nat) : Int)) [] 0 [] none, .no, .no] [2, 4, 6] [0, 1] (P := (0 ≤ v ∧ v ≤ 18446744073709551615) ∧ (_)) (l' := [(2, rV 0 0), (4, rV 1 0), (6, iV (min (((lnB v) : Nat) : Int) 23))]) (g' := [(0, some (28, .ds [iD li, D.lit (.slice none 0 0), iD 0, iD 0, iD 0, iD 0, iD 0, iD 0, iD b0, iD b1, iD b2, iD b3, iD b4, iD b5, iD b6, iD b7, iD b8, iD b9, iD b10, iD b11, iD b12, iD b13, iD b14, iD b15, iD b16, iD b17, iD b18, iD b19, iD b20, iD b21, iD b22, iD b23])), (1, some (28, .ds [iD 0, D.lit (.slice none 0 0), iD 0, iD 0, iD 0, iD 0, iD 0, iD 0, iD 0, iD 0, iD 0, iD 0, iD 0, iD 0, iD 0, iD 0, iD 0, iD 0, iD 0, iD 0, iD 0, iD 0, iD 0, iD 0, iD 0, iD 0, iD 0, iD 0, iD 0, iD 0, iD 0, iD 0]))]) (nx' := 2) (by kernel_rfl) ⟨⟨by omega, by omega⟩, (R_Len v (by omega))⟩ ?_
  refine AW.rgs [.no, .no, .no, .n2 11 19, .no, .call [] (iV (b11 + 1)) [] 0 [] none, .no, .n2 11 19, .no] [2, 4] [0, 1] (P := (((min (((lnB v) : Nat) : Int) 23) : Int) = 11) ∧ ((11 : Nat) < 24) ∧ ((8 : Nat) + 11 * 1 = 19) ∧ (_) ∧ (((min (((lnB v) : Nat) : Int) 23) : Int) = 11) ∧ ((11 : Nat) < 24) ∧ ((8 : Nat) + 11 * 1 = 19)) (l' := [(2, rV 0 0), (4, rV 1 0)]) (g' := [(0, some (28, .ds [iD li, D.lit (.slice none 0 0), iD 0, iD 0, iD 0, iD 0, iD 0, iD 0, iD b0, iD b1, iD b2, iD b3, iD b4, iD b5, iD b6, iD b7, iD b8, iD b9, iD b10, iD (b11 + 1), iD b12, iD b13, iD b14, iD b15, iD b16, iD b17, iD b18, iD b19, iD b20, iD b21, iD b22, iD b23])), (1, some (28, .ds [iD 0, D.lit (.slice none 0 0), iD 0, iD 0, iD 0, iD 0, iD 0, iD 0, iD 0, iD 0, iD 0, iD 0, iD 0, iD 0, iD 0, iD 0, iD 0, iD 0, iD 0, iD 0, iD 0, iD 0, iD 0, iD 0, iD 0, iD 0, iD 0, iD 0, iD 0, iD 0, iD 0, iD 0]))]) (nx' := 2) (by kernel_rfl) ⟨(by first | rfl | omega), (by omega), (by omega), (R_ctd b11 (by omega)), (by first | rfl | omega), (by omega), (by omega)⟩ ?_
  refine AW.rgs [.no, .no, .no] [4, 5] [1] (P := True) (l' := [(4, rV 1 0), (5, iV 0)]) (g' := [(1, some (28, .ds [iD li, D.lit (.slice none 0 0), iD 0, iD 0, iD 0, iD 0, iD 0, iD 0, iD b0, iD b1, iD b2, iD b3, iD b4, iD b5, iD b6, iD b7, iD b8, iD b9, iD b10, iD (b11 + 1), iD b12, iD b13, iD b14, iD b15, iD b16, iD b17, iD b18, iD b19, iD b20, iD b21, iD b22, iD b23]))]) (nx' := 2) (by kernel_rfl) trivial ?_
  refine AW.ret ?_
  exact EndP.of (.inr rfl) [] (P := ((li : Int) = li) ∧ ((.slice none 0 0 : Value) = .slice none 0 0) ∧ ((0 : Int) = 0) ∧ ((0 : Int) = 0) ∧ ((0 : Int) = 0) ∧ ((0 : Int) = 0) ∧ ((0 : Int) = 0) ∧ ((0 : Int) = 0) ∧ ((b0 : Int) = b0) ∧ ((b1 : Int) = b1) ∧ ((b2 : Int) = b2) ∧ ((b3 : Int) = b3) ∧ ((b4 : Int) = b4) ∧ ((b5 : Int) = b5) ∧ ((b6 : Int) = b6) ∧ ((b7 : Int) = b7) ∧ ((b8 : Int) = b8) ∧ ((b9 : Int) = b9) ∧ ((b10 : Int) = b10) ∧ (((b11 + 1) : Int) = (b11 + 1)) ∧ ((b12 : Int) = b12) ∧ ((b13 : Int) = b13) ∧ ((b14 : Int) = b14) ∧ ((b15 : Int) = b15) ∧ ((b16 : Int) = b16) ∧ ((b17 : Int) = b17) ∧ ((b18 : Int) = b18) ∧ ((b19 : Int) = b19) ∧ ((b20 : Int) = b20) ∧ ((b21 : Int) = b21) ∧ ((b22 : Int) = b22) ∧ ((b23 : Int) = b23) ∧ ((0 : Int) = 0)) (by kernel_rfl) ⟨rfl, rfl, rfl, rfl, rfl, rfl, rfl, rfl, rfl, rfl, rfl, rfl, rfl, rfl, rfl, rfl, rfl, rfl, rfl, rfl, rfl, rfl, rfl, rfl, rfl, rfl, rfl, rfl, rfl, rfl, rfl, rfl, rfl⟩

set_option maxHeartbeats 4000000 in
set_option maxRecDepth 100000 in
theorem R_ms12 (li b0 b1 b2 b3 b4 b5 b6 b7 b8 b9 b10 b11 b12 b13 b14 b15 b16 b17 b18 b19 b20 b21 b22 b23 v : Int) (hli : 1 ≤ li ∧ li ≤ 256) (hB : bkOk [b0, b1, b2, b3, b4, b5, b6, b7, b8, b9, b10, b11, b12, b13, b14, b15, b16, b17, b18, b19, b20, b21, b22, b23]) (hv : 0 ≤ v ∧ v < 4194304) (hk : lnB v = 12) : Fun 6 [.agg [iC li, .d (D.lit (.slice none 0 0)), iC 0, iC 0, iC 0, iC 0, iC 0, iC 0, iC b0, iC b1, iC b2, iC b3, iC b4, iC b5, iC b6, iC b7, iC b8, iC b9, iC b10, iC b11, iC b12, iC b13, iC b14, iC b15, iC b16, iC b17, iC b18, iC b19, iC b20, iC b21, iC b22, iC b23], iE v] (toG []) 0 (.tup [.agg [iC li, .d (D.lit (.slice none 0 0)), iC 0, iC 0, iC 0, iC 0, iC 0, iC 0, iC b0, iC b1, iC b2, iC b3, iC b4, iC b5, iC b6, iC b7, iC b8, iC b9, iC b10, iC b11, iC (b12 + 1), iC b13, iC b14, iC b15, iC b16, iC b17, iC b18, iC b19, iC b20, iC b21, iC b22, iC b23], iE 0]) (toG []) 0 := by
  have hb0 : 0 ≤ b0 ∧ b0 ≤ 1000 := hB 0 (by omega)
  have hb1 : 0 ≤ b1 ∧ b1 ≤ 1000 := hB 1 (by omega)
  have hb2 : 0 ≤ b2 ∧ b2 ≤ 1000 := hB 2 (by omega)
  have hb3 : 0 ≤ b3 ∧ b3 ≤ 1000 := hB 3 (by omega)
  have hb4 : 0 ≤ b4 ∧ b4 ≤ 1000 := hB 4 (by omega)
  have hb5 : 0 ≤ b5 ∧ b5 ≤ 1000 := hB 5 (by omega)
  have hb6 : 0 ≤ b6 ∧ b6 ≤ 1000 := hB 6 (by omega)
  have hb7 : 0 ≤ b7 ∧ b7 ≤ 1000 := hB 7 (by omega)
  have hb8 : 0 ≤ b8 ∧ b8 ≤ 1000 := hB 8 (by omega)
  have hb9 : 0 ≤ b9 ∧ b9 ≤ 1000 := hB 9 (by omega)
  have hb10 : 0 ≤ b10 ∧ b10 ≤ 1000 := hB 10 (by omega)
  have hb11 : 0 ≤ b11 ∧ b11 ≤ 1000 := hB 11 (by omega)
  have hb12 : 0 ≤ b12 ∧ b12 ≤ 1000 := hB 12 (by omega)
  have hb13 : 0 ≤ b13 ∧ b13 ≤ 1000 := hB 13 (by omega)
  have hb14 : 0 ≤ b14 ∧ b14 ≤ 1000 := hB 14 (by omega)
  have hb15 : 0 ≤ b15 ∧ b15 ≤ 1000 := hB 15 (by omega)
  have hb16 : 0 ≤ b16 ∧ b16 ≤ 1000 := hB 16 (by omega)
  have hb17 : 0 ≤ b17 ∧ b17 ≤ 1000 := hB 17 (by omega)
  have hb18 : 0 ≤ b18 ∧ b18 ≤ 1000 := hB 18 (by omega)
  have hb19 : 0 ≤ b19 ∧ b19 ≤ 1000 := hB 19 (by omega)
  have hb20 : 0 ≤ b20 ∧ b20 ≤ 1000 := hB 20 (by omega)
  have hb21 : 0 ≤ b21 ∧ b21 ≤ 1000 := hB 21 (by omega)
  have hb22 : 0 ≤ b22 ∧ b22 ≤ 1000 := hB 22 (by omega)
  have hb23 : 0 ≤ b23 ∧ b23 ≤ 1000 := hB 23 (by omega)
  refine Fun.mk (n := 29) Try.func6 rfl rfl (Nat.le_of_ble_eq_true rfl) ?_
  intro cx hcx
  refine AW.rgs [.no, .no, .no] [1, 2, 4] [0, 1] (P := True) (l' := [(1, iV v), (2, rV 0 0), (4, rV 1 0)]) (g' := [(0, some (28, .ds [iD li, D.lit (.slice none 0 0), iD 0, iD 0, iD 0, iD 0, iD 0, iD 0, iD b0, iD b1, iD b2, iD b3, iD b4, iD b5, iD b6, iD b7, iD b8, iD b9, iD b10, iD b11, iD b12, iD b13, iD b14, iD b15, iD b16, iD b17, iD b18, iD b19, iD b20, iD b21, iD b22, iD b23])), (1, some (28, .ds [iD 0, D.lit (.slice none 0 0), iD 0, iD 0, iD 0, iD 0, iD 0, iD 0, iD 0, iD 0, iD 0, iD 0, iD 0, iD 0, iD 0, iD 0, iD 0, iD 0, iD 0, iD 0, iD 0, iD 0, iD 0, iD 0, iD 0, iD 0, iD 0, iD 0, iD 0, iD 0, iD 0, iD 0]))]) (nx' := 2) (by kernel_rfl) trivial ?_
  refine AW.seq ?_
  refine AW.rgs [.no, .call [] (bV true) [] 0 [some [D.lit (.bool true)]] none, .no] [1, 2, 4, 9] [0, 1] (P := (_)) (l' := [(1, iV v), (2, rV 0 0), (4, rV 1 0), (9, bV false)]) (g' := [(0, some (28, .ds [iD li, D.lit (.slice none 0 0), iD 0, iD 0, iD 0, iD 0, iD 0, iD 0, iD b0, iD b1, iD b2, iD b3, iD b4, iD b5, iD b6, iD b7, iD b8, iD b9, iD b10, iD b11, iD b12, iD b13, iD b14, iD b15, iD b16, iD b17, iD b18, iD b19, iD b20, iD b21, iD b22, iD b23])), (1, some (28, .ds [iD 0, D.lit (.slice none 0 0), iD 0, iD 0, iD 0, iD 0, iD 0, iD 0, iD 0, iD 0, iD 0, iD 0, iD 0, iD 0, iD 0, iD 0, iD 0, iD 0, iD 0, iD 0, iD 0, iD 0, iD 0, iD 0, iD 0, iD 0, iD 0, iD 0, iD 0, iD 0, iD 0, iD 0]))]) (nx' := 2) (by kernel_rfl) (R_val li b0 b1 b2 b3 b4 b5 b6 b7 b8 b9 b10 b11 b12 b13 b14 b15 b16 b17 b18 b19 b20 b21 b22 b23 (by omega) (by first | omega | with_reducible assumption | (simp <;> omega) | rfl | assumption)) ?_
  refine AW.cond_f (.tmp (Look.of rfl)) ?_
  refine AW.skip ?_
  refine AW.seq ?_
  refine AW.rgs [.no, .b false] [1, 2, 4, 12] [0, 1] (P := (¬ (v < 0))) (l' := [(1, iV v), (2, rV 0 0), (4, rV 1 0), (12, bV false)]) (g' := [(0, some (28, .ds [iD li, D.lit (.slice none 0 0), iD 0, iD 0, iD 0, iD 0, iD 0, iD 0, iD b0, iD b1, iD b2, iD b3, iD b4, iD b5, iD b6, iD b7, iD b8, iD b9, iD b10, iD b11, iD b12, iD b13, iD b14, iD b15, iD b16, iD b17, iD b18, iD b19, iD b20, iD b21, iD b22, iD b23])), (1, some (28, .ds [iD 0, D.lit (.slice none 0 0), iD 0, iD 0, iD 0, iD 0, iD 0, iD 0, iD 0, iD 0, iD 0, iD 0, iD 0, iD 0, iD 0, iD 0, iD 0, iD 0, iD 0, iD 0, iD 0, iD 0, iD 0, iD 0, iD 0, iD 0, iD 0, iD 0, iD 0, iD 0, iD 0, iD 0]))]) (nx' := 2) (by kernel_rfl) (by omega) ?_
  refine AW.cond_f (.tmp (Look.of rfl)) ?_
  refine AW.skip ?_
  refine AW.rgs [.no, .call [] (.e (.agg [iC li, .d (D.lit (.slice none 0 0)), iC 0, iC 0, iC 0, iC 0, iC 0, iC 0, iC b0, iC b1, iC b2, iC b3, iC b4, iC b5, iC b6, iC b7, iC b8, iC b9, iC b10, iC b11, iC b12, iC b13, iC b14, iC b15, iC b16, iC b17, iC b18, iC b19, iC b20, iC b21, iC b22, iC b23])) [] 0 [some [D.lit (.bool true)]] none, .no] [1, 2, 4] [0, 1] (P := (_)) (l' := [(1, iV v), (2, rV 0 0), (4, rV 1 0)]) (g' := [(0, some (28, .ds [iD li, D.lit (.slice none 0 0), iD 0, iD 0, iD 0, iD 0, iD 0, iD 0, iD b0, iD b1, iD b2, iD b3, iD b4, iD b5, iD b6, iD b7, iD b8, iD b9, iD b10, iD b11, iD b12, iD b13, iD b14, iD b15, iD b16, iD b17, iD b18, iD b19, iD b20, iD b21, iD b22, iD b23])), (1, some (28, .ds [iD 0, D.lit (.slice none 0 0), iD 0, iD 0, iD 0, iD 0, iD 0, iD 0, iD 0, iD 0, iD 0, iD 0, iD 0, iD 0, iD 0, iD 0, iD 0, iD 0, iD 0, iD 0, iD 0, iD 0, iD 0, iD 0, iD 0, iD 0, iD 0, iD 0, iD 0, iD 0, iD 0, iD 0]))]) (nx' := 2) (by kernel_rfl) (R_fr li b0 b1 b2 b3 b4 b5 b6 b7 b8 b9 b10 b11 b12 b13 b14 b15 b16 b17 b18 b19 b20 b21 b22 b23) ?_
  have hx1 : ((lnB v) ≤ 22) := (ln_22 ((by omega)))
  refine AW.rgs [.no, .w, .call [] (iV (((lnB v) : Nat) : Int)) [] 0 [] none, .no, .no] [2, 4, 6] [0, 1] (P := (0 ≤ v ∧ v ≤ 18446744073709551615) ∧ (_)) (l' := [(2, rV 0 0), (4, rV 1 0), (6, iV (min (((lnB v) : Nat) : Int) 23))]) (g' := [(0, some (28, .ds [iD li, D.lit (.slice none 0 0), iD 0, iD 0, iD 0, iD 0, iD 0, iD 0, iD b0, iD b1, iD b2, iD b3, iD b4, iD b5, iD b6, iD b7, iD b8, iD b9, iD b10, iD b11, iD b12, iD b13, iD b14, iD b15, iD b16, iD b17, iD b18, iD b19, iD b20, iD b21, iD b22, iD b23])), (1, some (28, .ds [iD 0, D.lit (.slice none 0 0), iD 0, iD 0, iD 0, iD 0, iD 0, iD 0, iD 0, iD 0, iD 0, iD 0, iD 0, iD 0, iD 0, iD 0, iD 0, iD 0, iD 0, iD 0, iD 0, iD 0, iD 0, iD 0, iD 0, iD 0, iD 0, iD 0, iD 0, iD 0, iD 0, iD 0]))]) (nx' := 2) (by kernel_rfl) ⟨⟨by omega, by omega⟩, (R_Len v (by omega))⟩ ?_
  refine AW.rgs [.no, .no, .no, .n2 12 20, .no, .call [] (iV (b12 + 1)) [] 0 [] none, .no, .n2 12 20, .no] [2, 4] [0, 1] (P := (((min (((lnB v) : Nat) : Int) 23) : Int) = 12) ∧ ((12 : Nat) < 24) ∧ ((8 : Nat) + 12 * 1 = 20) ∧ (_) ∧ (((min (((lnB v) : Nat) : Int) 23) : Int) = 12) ∧ ((12 : Nat) < 24) ∧ ((8 : Nat) + 12 * 1 = 20)) (l' := [(2, rV 0 0), (4, rV 1 0)]) (g' := [(0, some (28, .ds [iD li, D.lit (.slice none 0 0), iD 0, iD 0, iD 0, iD 0, iD 0, iD 0, iD b0, iD b1, iD b2, iD b3, iD b4, iD b5, iD b6, iD b7, iD b8, iD b9, iD b10, iD b11, iD (b12 + 1), iD b13, iD b14, iD b15, iD b16, iD b17, iD b18, iD b19, iD b20, iD b21, iD b22, iD b23])), (1, some (28, .ds [iD 0, D.lit (.slice none 0 0), iD 0, iD 0, iD 0, iD 0, iD 0, iD 0, iD 0, iD 0, iD 0, iD 0, iD 0, iD 0, iD 0, iD 0, iD 0, iD 0, iD 0, iD 0, iD 0, iD 0, iD 0, iD 0, iD 0, iD 0, iD 0, iD 0, iD 0, iD 0, iD 0, iD 0]))]) (nx' := 2) (by kernel_rfl) ⟨(by first | rfl | omega), (by omega), (by omega), (R_ctd b12 (by omega)), (by first | rfl | omega), (by omega), (by omega)⟩ ?_
  refine AW.rgs [.no, .no, .no] [4, 5] [1] (P := True) (l' := [(4, rV 1 0), (5, iV 0)]) (g' := [(1, some (28, .ds [iD li, D.lit (.slice none 0 0), iD 0, iD 0, iD 0, iD 0, iD 0, iD 0, iD b0, iD b1, iD b2, iD b3, iD b4, iD b5, iD b6, iD b7, iD b8, iD b9, iD b10, iD b11, iD (b12 + 1), iD b13, iD b14, iD b15, iD b16, iD b17, iD b18, iD b19, iD b20, iD b21, iD b22, iD b23]))]) (nx' := 2) (by kernel_rfl) trivial ?_
  refine AW.ret ?_
  exact EndP.of (.inr rfl) [] (P := ((li : Int) = li) ∧ ((.slice none 0 0 : Value) = .slice none 0 0) ∧ ((0 : Int) = 0) ∧ ((0 : Int) = 0) ∧ ((0 : Int) = 0) ∧ ((0 : Int) = 0) ∧ ((0 : Int) = 0) ∧ ((0 : Int) = 0) ∧ ((b0 : Int) = b0) ∧ ((b1 : Int) = b1) ∧ ((b2 : Int) = b2) ∧ ((b3 : Int) = b3) ∧ ((b4 : Int) = b4) ∧ ((b5 : Int) = b5) ∧ ((b6 : Int) = b6) ∧ ((b7 : Int) = b7) ∧ ((b8 : Int) = b8) ∧ ((b9 : Int) = b9) ∧ ((b10 : Int) = b10) ∧ ((b11 : Int) = b11) ∧ (((b12 + 1) : Int) = (b12 + 1)) ∧ ((b13 : Int) = b13) ∧ ((b14 : Int) = b14) ∧ ((b15 : Int) = b15) ∧ ((b16 : Int) = b16) ∧ ((b17 : Int) = b17) ∧ ((b18 : Int) = b18) ∧ ((b19 : Int) = b19) ∧ ((b20 : Int) = b20) ∧ ((b21 : Int) = b21) ∧ ((b22 : Int) = b22) ∧ ((b23 : Int) = b23) ∧ ((0 : Int) = 0)) (by kernel_rfl) ⟨rfl, rfl, rfl, rfl, rfl, rfl, rfl, rfl, rfl, rfl, rfl, rfl, rfl, rfl, rfl, rfl, rfl, rfl, rfl, rfl, rfl, rfl, rfl, rfl, rfl, rfl, rfl, rfl, rfl, rfl, rfl, rfl, rfl⟩

set_option maxHeartbeats 4000000 in
set_option maxRecDepth 100000 in
theorem R_ms13 (li b0 b1 b2 b3 b4 b5 b6 b7 b8 b9 b10 b11 b12 b13 b14 b15 b16 b17 b18 b19 b20 b21 b22 b23 v : Int) (hli : 1 ≤ li ∧ li ≤ 256) (hB : bkOk [b0, b1, b2, b3, b4, b5, b6, b7, b8, b9, b10, b11, b12, b13, b14, b15, b16, b17, b18, b19, b20, b21, b22, b23]) (hv : 0 ≤ v ∧ v < 4194304) (hk : lnB v = 13) : Fun 6 [.agg [iC li, .d (D.lit (.slice none 0 0)), iC 0, iC 0, iC 0, iC 0, iC 0, iC 0, iC b0, iC b1, iC b2, iC b3, iC b4, iC b5, iC b6, iC b7, iC b8, iC b9, iC b10, iC b11, iC b12, iC b13, iC b14, iC b15, iC b16, iC b17, iC b18, iC b19, iC b20, iC b21, iC b22, iC b23], iE v] (toG []) 0 (.tup [.agg [iC li, .d (D.lit (.slice none 0 0)), iC 0, iC 0, iC 0, iC 0, iC 0, iC 0, iC b0, iC b1, iC b2, iC b3, iC b4, iC b5, iC b6, iC b7, iC b8, iC b9, iC b10, iC b11, iC b12, iC (b13 + 1), iC b14, iC b15, iC b16, iC b17, iC b18, iC b19, iC b20, iC b21, iC b22, iC b23], iE 0]) (toG []) 0 := by
  have hb0 : 0 ≤ b0 ∧ b0 ≤ 1000 := hB 0 (by omega)
  have hb1 : 0 ≤ b1 ∧ b1 ≤ 1000 := hB 1 (by omega)
  have hb2 : 0 ≤ b2 ∧ b2 ≤ 1000 := hB 2 (by omega)
  have hb3 : 0 ≤ b3 ∧ b3 ≤ 1000 := hB 3 (by omega)
  have hb4 : 0 ≤ b4 ∧ b4 ≤ 1000 := hB 4 (by omega)
  have hb5 : 0 ≤ b5 ∧ b5 ≤ 1000 := hB 5 (by omega)
  have hb6 : 0 ≤ b6 ∧ b6 ≤ 1000 := hB 6 (by omega)
  have hb7 : 0 ≤ b7 ∧ b7 ≤ 1000 := hB 7 (by omega)
  have hb8 : 0 ≤ b8 ∧ b8 ≤ 1000 := hB 8 (by omega)
  have hb9 : 0 ≤ b9 ∧ b9 ≤ 1000 := hB 9 (by omega)
  have hb10 : 0 ≤ b10 ∧ b10 ≤ 1000 := hB 10 (by omega)
  have hb11 : 0 ≤ b11 ∧ b11 ≤ 1000 := hB 11 (by omega)
  have hb12 : 0 ≤ b12 ∧ b12 ≤ 1000 := hB 12 (by omega)
  have hb13 : 0 ≤ b13 ∧ b13 ≤ 1000 := hB 13 (by omega)
  have hb14 : 0 ≤ b14 ∧ b14 ≤ 1000 := hB 14 (by omega)
  have hb15 : 0 ≤ b15 ∧ b15 ≤ 1000 := hB 15 (by omega)
  have hb16 : 0 ≤ b16 ∧ b16 ≤ 1000 := hB 16 (by omega)
  have hb17 : 0 ≤ b17 ∧ b17 ≤ 1000 := hB 17 (by omega)
  have hb18 : 0 ≤ b18 ∧ b18 ≤ 1000 := hB 18 (by omega)
  have hb19 : 0 ≤ b19 ∧ b19 ≤ 1000 := hB 19 (by omega)
  have hb20 : 0 ≤ b20 ∧ b20 ≤ 1000 := hB 20 (by omega)
  have hb21 : 0 ≤ b21 ∧ b21 ≤ 1000 := hB 21 (by omega)
  have hb22 : 0 ≤ b22 ∧ b22 ≤ 1000 := hB 22 (by omega)
  have hb23 : 0 ≤ b23 ∧ b23 ≤ 1000 := hB 23 (by omega)
  refine Fun.mk (n := 29) Try.func6 rfl rfl (Nat.le_of_ble_eq_true rfl) ?_
  intro cx hcx
  refine AW.rgs [.no, .no, .no] [1, 2, 4] [0, 1] (P := True) (l' := [(1, iV v), (2, rV 0 0), (4, rV 1 0)]) (g' := [(0, some (28, .ds [iD li, D.lit (.slice none 0 0), iD 0, iD 0, iD 0, iD 0, iD 0, iD 0, iD b0, iD b1, iD b2, iD b3, iD b4, iD b5, iD b6, iD b7, iD b8, iD b9, iD b10, iD b11, iD b12, iD b13, iD b14, iD b15, iD b16, iD b17, iD b18, iD b19, iD b20, iD b21, iD b22, iD b23])), (1, some (28, .ds [iD 0, D.lit (.slice none 0 0), iD 0, iD 0, iD 0, iD 0, iD 0, iD 0, iD 0, iD 0, iD 0, iD 0, iD 0, iD 0, iD 0, iD 0, iD 0, iD 0, iD 0, iD 0, iD 0, iD 0, iD 0, iD 0, iD 0, iD 0, iD 0, iD 0, iD 0, iD 0, iD 0, iD 0]))]) (nx' := 2) (by kernel_rfl) trivial ?_
  refine AW.seq ?_
  refine AW.rgs [.no, .call [] (bV true) [] 0 [some [D.lit (.bool true)]] none, .no] [1, 2, 4, 9] [0, 1] (P := (_)) (l' := [(1, iV v), (2, rV 0 0), (4, rV 1 0), (9, bV false)]) (g' := [(0, some (28, .ds [iD li, D.lit (.slice none 0 0), iD 0, iD 0, iD 0, iD 0, iD 0, iD 0, iD b0, iD b1, iD b2, iD b3, iD b4, iD b5, iD b6, iD b7, iD b8, iD b9, iD b10, iD b11, iD b12, iD b13, iD b14, iD b15, iD b16, iD b17, iD b18, iD b19, iD b20, iD b21, iD b22, iD b23])), (1, some (28, .ds [iD 0, D.lit (.slice none 0 0), iD 0, iD 0, iD 0, iD 0, iD 0, iD 0, iD 0, iD 0, iD 0, iD 0, iD 0, iD 0, iD 0, iD 0, iD 0, iD 0, iD 0, iD 0, iD 0, iD 0, iD 0, iD 0, iD 0, iD 0, iD 0, iD 0, iD 0, iD 0, iD 0, iD 0]))]) (nx' := 2) (by kernel_rfl) (R_val li b0 b1 b2 b3 b4 b5 b6 b7 b8 b9 b10 b11 b12 b13 b14 b15 b16 b17 b18 b19 b20 b21 b22 b23 (by omega) (by first | omega | with_reducible assumption | (simp <;> omega) | rfl | assumption)) ?_
  refine AW.cond_f (.tmp (Look.of rfl)) ?_
  refine AW.skip ?_
  refine AW.seq ?_
  refine AW.rgs [.no, .b false] [1, 2, 4, 12] [0, 1] (P := (¬ (v < 0))) (l' := [(1, iV v), (2, rV 0 0), (4, rV 1 0), (12, bV false)]) (g' := [(0, some (28, .ds [iD li, D.lit (.slice none 0 0), iD 0, iD 0, iD 0, iD 0, iD 0, iD 0, iD b0, iD b1, iD b2, iD b3, iD b4, iD b5, iD b6, iD b7, iD b8, iD b9, iD b10, iD b11, iD b12, iD b13, iD b14, iD b15, iD b16, iD b17, iD b18, iD b19, iD b20, iD b21, iD b22, iD b23])), (1, some (28, .ds [iD 0, D.lit (.slice none 0 0), iD 0, iD 0, iD 0, iD 0, iD 0, iD 0, iD 0, iD 0, iD 0, iD 0, iD 0, iD 0, iD 0, iD 0, iD 0, iD 0, iD 0, iD 0, iD 0, iD 0, iD 0, iD 0, iD 0, iD 0, iD 0, iD 0, iD 0, iD 0, iD 0, iD 0]))]) (nx' := 2) (by kernel_rfl) (by omega) ?_
  refine AW.cond_f (.tmp (Look.of rfl)) ?_
  refine AW.skip ?_
  refine AW.rgs [.no, .call [] (.e (.agg [iC li, .d (D.lit (.slice none 0 0)), iC 0, iC 0, iC 0, iC 0, iC 0, iC 0, iC b0, iC b1, iC b2, iC b3, iC b4, iC b5, iC b6, iC b7, iC b8, iC b9, iC b10, iC b11, iC b12, iC b13, iC b14, iC b15, iC b16, iC b17, iC b18, iC b19, iC b20, iC b21, iC b22, iC b23])) [] 0 [some [D.lit (.bool true)]] none, .no] [1, 2, 4] [0, 1] (P := (_)) (l' := [(1, iV v), (2, rV 0 0), (4, rV 1 0)]) (g' := [(0, some (28, .ds [iD li, D.lit (.slice none 0 0), iD 0, iD 0, iD 0, iD 0, iD 0, iD 0, iD b0, iD b1, iD b2, iD b3, iD b4, iD b5, iD b6, iD b7, iD b8, iD b9, iD b10, iD b11, iD b12, iD b13, iD b14, iD b15, iD b16, iD b17, iD b18, iD b19, iD b20, iD b21, iD b22, iD b23])), (1, some (28, .ds [iD 0, D.lit (.slice none 0 0), iD 0, iD 0, iD 0, iD 0, iD 0, iD 0, iD 0, iD 0, iD 0, iD 0, iD 0, iD 0, iD 0, iD 0, iD 0, iD 0, iD 0, iD 0, iD 0, iD 0, iD 0, iD 0, iD 0, iD 0, iD 0, iD 0, iD 0, iD 0, iD 0, iD 0]))]) (nx' := 2) (by kernel_rfl) (R_fr li b0 b1 b2 b3 b4 b5 b6 b7 b8 b9 b10 b11 b12 b13 b14 b15 b16 b17 b18 b19 b20 b21 b22 b23) ?_
  have hx1 : ((lnB v) ≤ 22) := (ln_22 ((by omega)))
  refine AW.rgs [.no, .w, .call [] (iV (((lnB v) : Nat) : Int)) [] 0 [] none, .no, .no] [2, 4, 6] [0, 1] (P := (0 ≤ v ∧ v ≤ 18446744073709551615) ∧ (_)) (l' := [(2, rV 0 0), (4, rV 1 0), (6, iV (min (((lnB v) : Nat) : Int) 23))]) (g' := [(0, some (28, .ds [iD li, D.lit (.slice none 0 0), iD 0, iD 0, iD 0, iD 0, iD 0, iD 0, iD b0, iD b1, iD b2, iD b3, iD b4, iD b5, iD b6, iD b7, iD b8, iD b9, iD b10, iD b11, iD b12, iD b13, iD b14, iD b15, iD b16, iD b17, iD b18, iD b19, iD b20, iD b21, iD b22, iD b23])), (1, some (28, .ds [iD 0, D.lit (.slice none 0 0), iD 0, iD 0, iD 0, iD 0, iD 0, iD 0, iD 0, iD 0, iD 0, iD 0, iD 0, iD 0, iD 0, iD 0, iD 0, iD 0, iD 0, iD 0, iD 0, iD 0, iD 0, iD 0, iD 0, iD 0, iD 0, iD 0, iD 0, iD 0, iD 0, iD 0]))]) (nx' := 2) (by kernel_rfl) ⟨⟨by omega, by omega⟩, (R_Len v (by omega))⟩ ?_
  refine AW.rgs [.no, .no, .no, .n2 13 21, .no, .call [] (iV (b13 + 1)) [] 0 [] none, .no, .n2 13 21, .no] [2, 4] [0, 1] (P := (((min (((lnB v) : Nat) : Int) 23) : Int) = 13) ∧ ((13 : Nat) < 24) ∧ ((8 : Nat) + 13 * 1 = 21) ∧ (_) ∧ (((min (((lnB v) : Nat) : Int) 23) : Int) = 13) ∧ ((13 : Nat) < 24) ∧ ((8 : Nat) + 13 * 1 = 21)) (l' := [(2, rV 0 0), (4, rV 1 0)]) (g' := [(0, some (28, .ds [iD li, D.lit (.slice none 0 0), iD 0, iD 0, iD 0, iD 0, iD 0, iD 0, iD b0, iD b1, iD b2, iD b3, iD b4, iD b5, iD b6, iD b7, iD b8, iD b9, iD b10, iD b11, iD b12, iD (b13 + 1), iD b14, iD b15, iD b16, iD b17, iD b18, iD b19, iD b20, iD b21, iD b22, iD b23])), (1, some (28, .ds [iD 0, D.lit (.slice none 0 0), iD 0, iD 0, iD 0, iD 0, iD 0, iD 0, iD 0, iD 0, iD 0, iD 0, iD 0, iD 0, iD 0, iD 0, iD 0, iD 0, iD 0, iD 0, iD 0, iD 0, iD 0, iD 0, iD 0, iD 0, iD 0, iD 0, iD 0, iD 0, iD 0, iD 0]))]) (nx' := 2) (by kernel_rfl) ⟨(by first | rfl | omega), (by omega), (by omega), (R_ctd b13 (by omega)), (by first | rfl | omega), (by omega), (by omega)⟩ ?_
  refine AW.rgs [.no, .no, .no] [4, 5] [1] (P := True) (l' := [(4, rV 1 0), (5, iV 0)]) (g' := [(1, some (28, .ds [iD li, D.lit (.slice none 0 0), iD 0, iD 0, iD 0, iD 0, iD 0, iD 0, iD b0, iD b1, iD b2, iD b3, iD b4, iD b5, iD b6, iD b7, iD b8, iD b9, iD b10, iD b11, iD b12, iD (b13 + 1), iD b14, iD b15, iD b16, iD b17, iD b18, iD b19, iD b20, iD b21, iD b22, iD b23]))]) (nx' := 2) (by kernel_rfl) trivial ?_
  refine AW.ret ?_
  exact EndP.of (.inr rfl) [] (P := ((li : Int) = li) ∧ ((.slice none 0 0 : Value) = .slice none 0 0) ∧ ((0 : Int) = 0) ∧ ((0 : Int) = 0) ∧ ((0 : Int) = 0) ∧ ((0 : Int) = 0) ∧ ((0 : Int) = 0) ∧ ((0 : Int) = 0) ∧ ((b0 : Int) = b0) ∧ ((b1 : Int) = b1) ∧ ((b2 : Int) = b2) ∧ ((b3 : Int) = b3) ∧ ((b4 : Int) = b4) ∧ ((b5 : Int) = b5) ∧ ((b6 : Int) = b6) ∧ ((b7 : Int) = b7) ∧ ((b8 : Int) = b8) ∧ ((b9 : Int) = b9) ∧ ((b10 : Int) = b10) ∧ ((b11 : Int) = b11) ∧ ((b12 : Int) = b12) ∧ (((b13 + 1) : Int) = (b13 + 1)) ∧ ((b14 : Int) = b14) ∧ ((b15 : Int) = b15) ∧ ((b16 : Int) = b16) ∧ ((b17 : Int) = b17) ∧ ((b18 : Int) = b18) ∧ ((b19 : Int) = b19) ∧ ((b20 : Int) = b20) ∧ ((b21 : Int) = b21) ∧ ((b22 : Int) = b22) ∧ ((b23 : Int) = b23) ∧ ((0 : Int) = 0)) (by kernel_rfl) ⟨rfl, rfl, rfl, rfl, rfl, rfl, rfl, rfl, rfl, rfl, rfl, rfl, rfl, rfl, rfl, rfl, rfl, rfl, rfl, rfl, rfl, rfl, rfl, rfl, rfl, rfl, rfl, rfl, rfl, rfl, rfl, rfl, rfl⟩

set_option maxHeartbeats 4000000 in
set_option maxRecDepth 100000 in
theorem R_ms14 (li b0 b1 b2 b3 b4 b5 b6 b7 b8 b9 b10 b11 b12 b13 b14 b15 b16 b17 b18 b19 b20 b21 b22 b23 v : Int) (hli : 1 ≤ li ∧ li ≤ 256) (hB : bkOk [b0, b1, b2, b3, b4, b5, b6, b7, b8, b9, b10, b11, b12, b13, b14, b15, b16, b17, b18, b19, b20, b21, b22, b23]) (hv : 0 ≤ v ∧ v < 4194304) (hk : lnB v = 14) : Fun 6 [.agg [iC li, .d (D.lit (.slice none 0 0)), iC 0, iC 0, iC 0, iC 0, iC 0, iC 0, iC b0, iC b1, iC b2, iC b3, iC b4, iC b5, iC b6, iC b7, iC b8, iC b9, iC b10, iC b11, iC b12, iC b13, iC b14, iC b15, iC b16, iC b17, iC b18, iC b19, iC b20, iC b21, iC b22, iC b23], iE v] (toG []) 0 (.tup [.agg [iC li, .d (D.lit (.slice none 0 0)), iC 0, iC 0, iC 0, iC 0, iC 0, iC 0, iC b0, iC b1, iC b2, iC b3, iC b4, iC b5, iC b6, iC b7, iC b8, iC b9, iC b10, iC b11, iC b12, iC b13, iC (b14 + 1), iC b15, iC b16, iC b17, iC b18, iC b19, iC b20, iC b21, iC b22, iC b23], iE 0]) (toG []) 0 := by
  have hb0 : 0 ≤ b0 ∧ b0 ≤ 1000 := hB 0 (by omega)
  have hb1 : 0 ≤ b1 ∧ b1 ≤ 1000 := hB 1 (by omega)
  have hb2 : 0 ≤ b2 ∧ b2 ≤ 1000 := hB 2 (by omega)
  have hb3 : 0 ≤ b3 ∧ b3 ≤ 1000 := hB 3 (by omega)
  have hb4 : 0 ≤ b4 ∧ b4 ≤ 1000 := hB 4 (by omega)
  have hb5 : 0 ≤ b5 ∧ b5 ≤ 1000 := hB 5 (by omega)
  have hb6 : 0 ≤ b6 ∧ b6 ≤ 1000 := hB 6 (by omega)
  have hb7 : 0 ≤ b7 ∧ b7 ≤ 1000 := hB 7 (by omega)
  have hb8 : 0 ≤ b8 ∧ b8 ≤ 1000 := hB 8 (by omega)
  have hb9 : 0 ≤ b9 ∧ b9 ≤ 1000 := hB 9 (by omega)
  have hb10 : 0 ≤ b10 ∧ b10 ≤ 1000 := hB 10 (by omega)
  have hb11 : 0 ≤ b11 ∧ b11 ≤ 1000 := hB 11 (by omega)
  have hb12 : 0 ≤ b12 ∧ b12 ≤ 1000 := hB 12 (by omega)
  have hb13 : 0 ≤ b13 ∧ b13 ≤ 1000 := hB 13 (by omega)
  have hb14 : 0 ≤ b14 ∧ b14 ≤ 1000 := hB 14 (by omega)
  have hb15 : 0 ≤ b15 ∧ b15 ≤ 1000 := hB 15 (by omega)
  have hb16 : 0 ≤ b16 ∧ b16 ≤ 1000 := hB 16 (by omega)
  have hb17 : 0 ≤ b17 ∧ b17 ≤ 1000 := hB 17 (by omega)
  have hb18 : 0 ≤ b18 ∧ b18 ≤ 1000 := hB 18 (by omega)
  have hb19 : 0 ≤ b19 ∧ b19 ≤ 1000 := hB 19 (by omega)
  have hb20 : 0 ≤ b20 ∧ b20 ≤ 1000 := hB 20 (by omega)
  have hb21 : 0 ≤ b21 ∧ b21 ≤ 1000 := hB 21 (by omega)
  have hb22 : 0 ≤ b22 ∧ b22 ≤ 1000 := hB 22 (by omega)
  have hb23 : 0 ≤ b23 ∧ b23 ≤ 1000 := hB 23 (by omega)
  refine Fun.mk (n := 29) Try.func6 rfl rfl (Nat.le_of_ble_eq_true rfl) ?_
  intro cx hcx
  refine AW.rgs [.no, .no, .no] [1, 2, 4] [0, 1] (P := True) (l' := [(1, iV v), (2, rV 0 0), (4, rV 1 0)]) (g' := [(0, some (28, .ds [iD li, D.lit (.slice none 0 0), iD 0, iD 0, iD 0, iD 0, iD 0, iD 0, iD b0, iD b1, iD b2, iD b3, iD b4, iD b5, iD b6, iD b7, iD b8, iD b9, iD b10, iD b11, iD b12, iD b13, iD b14, iD b15, iD b16, iD b17, iD b18, iD b19, iD b20, iD b21, iD b22, iD b23])), (1, some (28, .ds [iD 0, D.lit (.slice none 0 0), iD 0, iD 0, iD 0, iD 0, iD 0, iD 0, iD 0, iD 0, iD 0, iD 0, iD 0, iD 0, iD 0, iD 0, iD 0, iD 0, iD 0, iD 0, iD 0, iD 0, iD 0, iD 0, iD 0, iD 0, iD 0, iD 0, iD 0, iD 0, iD 0, iD 0]))]) (nx' := 2) (by kernel_rfl) trivial ?_
  refine AW.seq ?_
  refine AW.rgs [.no, .call [] (bV true) [] 0 [some [D.lit (.bool true)]] none, .no] [1, 2, 4, 9] [0, 1] (P := (_)) (l' := [(1, iV v), (2, rV 0 0), (4, rV 1 0), (9, bV false)]) (g' := [(0, some (28, .ds [iD li, D.lit (.slice none 0 0), iD 0, iD 0, iD 0, iD 0, iD 0, iD 0, iD b0, iD b1, iD b2, iD b3, iD b4, iD b5, iD b6, iD b7, iD b8, iD b9, iD b10, iD b11, iD b12, iD b13, iD b14, iD b15, iD b16, iD b17, iD b18, iD b19, iD b20, iD b21, iD b22, iD b23])), (1, some (28, .ds [iD 0, D.lit (.slice none 0 0), iD 0, iD 0, iD 0, iD 0, iD 0, iD 0, iD 0, iD 0, iD 0, iD 0, iD 0, iD 0, iD 0, iD 0, iD 0, iD 0, iD 0, iD 0, iD 0, iD 0, iD 0, iD 0, iD 0, iD 0, iD 0, iD 0, iD 0, iD 0, iD 0, iD 0]))]) (nx' := 2) (by kernel_rfl) (R_val li b0 b1 b2 b3 b4 b5 b6 b7 b8 b9 b10 b11 b12 b13 b14 b15 b16 b17 b18 b19 b20 b21 b22 b23 (by omega) (by first | omega | with_reducible assumption | (simp <;> omega) | rfl | assumption)) ?_
  refine AW.cond_f (.tmp (Look.of rfl)) ?_
  refine AW.skip ?_
  refine AW.seq ?_
  refine AW.rgs [.no, .b false] [1, 2, 4, 12] [0, 1] (P := (¬ (v < 0))) (l' := [(1, iV v), (2, rV 0 0), (4, rV 1 0), (12, bV false)]) (g' := [(0, some (28, .ds [iD li, D.lit (.slice none 0 0), iD 0, iD 0, iD 0, iD 0, iD 0, iD 0, iD b0, iD b1, iD b2, iD b3, iD b4, iD b5, iD b6, iD b7, iD b8, iD b9, iD b10, iD b11, iD b12, iD b13, iD b14, iD b15, iD b16, iD b17, iD b18, iD b19, iD b20, iD b21, iD b22, iD b23])), (1, some (28, .ds [iD 0, D.lit (.slice none 0 0), iD 0, iD 0, iD 0, iD 0, iD 0, iD 0, iD 0, iD 0, iD 0, iD 0, iD 0, iD 0, iD 0, iD 0, iD 0, iD 0, iD 0, iD 0, iD 0, iD 0, iD 0, iD 0, iD 0, iD 0, iD 0, iD 0, iD 0, iD 0, iD 0, iD 0]))]) (nx' := 2) (by kernel_rfl) (by omega) ?_
  refine AW.cond_f (.tmp (Look.of rfl)) ?_
  refine AW.skip ?_
  refine AW.rgs [.no, .call [] (.e (.agg [iC li, .d (D.lit (.slice none 0 0)), iC 0, iC 0, iC 0, iC 0, iC 0, iC 0, iC b0, iC b1, iC b2, iC b3, iC b4, iC b5, iC b6, iC b7, iC b8, iC b9, iC b10, iC b11, iC b12, iC b13, iC b14, iC b15, iC b16, iC b17, iC b18, iC b19, iC b20, iC b21, iC b22, iC b23])) [] 0 [some [D.lit (.bool true)]] none, .no] [1, 2, 4] [0, 1] (P := (_)) (l' := [(1, iV v), (2, rV 0 0), (4, rV 1 0)]) (g' := [(0, some (28, .ds [iD li, D.lit (.slice none 0 0), iD 0, iD 0, iD 0, iD 0, iD 0, iD 0, iD b0, iD b1, iD b2, iD b3, iD b4, iD b5, iD b6, iD b7, iD b8, iD b9, iD b10, iD b11, iD b12, iD b13, iD b14, iD b15, iD b16, iD b17, iD b18, iD b19, iD b20, iD b21, iD b22, iD b23])), (1, some (28, .ds [iD 0, D.lit (.slice none 0 0), iD 0, iD 0, iD 0, iD 0, iD 0, iD 0, iD 0, iD 0, iD 0, iD 0, iD 0, iD 0, iD 0, iD 0, iD 0, iD 0, iD 0, iD 0, iD 0, iD 0, iD 0, iD 0, iD 0, iD 0, iD 0, iD 0, iD 0, iD 0, iD 0, iD 0]))]) (nx' := 2) (by kernel_rfl) (R_fr li b0 b1 b2 b3 b4 b5 b6 b7 b8 b9 b10 b11 b12 b13 b14 b15 b16 b17 b18 b19 b20 b21 b22 b23) ?_
  have hx1 : ((lnB v) ≤ 22) := (ln_22 ((by omega)))
  refine AW.rgs [.no, .w, .call [] (iV (((lnB v) : Nat) : Int)) [] 0 [] none, .no, .no] [2, 4, 6] [0, 1] (P := (0 ≤ v ∧ v ≤ 18446744073709551615) ∧ (_)) (l' := [(2, rV 0 0), (4, rV 1 0), (6, iV (min (((lnB v) : Nat) : Int) 23))]) (g' := [(0, some (28, .ds [iD li, D.lit (.slice none 0 0), iD 0, iD 0, iD 0, iD 0, iD 0, iD 0, iD b0, iD b1, iD b2, iD b3, iD b4, iD b5, iD b6, iD b7, iD b8, iD b9, iD b10, iD b11, iD b12, iD b13, iD b14, iD b15, iD b16, iD b17, iD b18, iD b19, iD b20, iD b21, iD b22, iD b23])), (1, some (28, .ds [iD 0, D.lit (.slice none 0 0), iD 0, iD 0, iD 0, iD 0, iD 0, iD 0, iD 0, iD 0, iD 0, iD 0, iD 0, iD 0, iD 0, iD 0, iD 0, iD 0, iD 0, iD 0, iD 0, iD 0, iD 0, iD 0, iD 0, iD 0, iD 0, iD 0, iD 0, iD 0, iD 0, iD 0]))]) (nx' := 2) (by kernel_rfl) ⟨⟨by omega, by omega⟩, (R_Len v (by omega))⟩ ?_
  refine AW.rgs [.no, .no, .no, .n2 14 22, .no, .call [] (iV (b14 + 1)) [] 0 [] none, .no, .n2 14 22, .no] [2, 4] [0, 1] (P := (((min (((lnB v) : Nat) : Int) 23) : Int) = 14) ∧ ((14 : Nat) < 24) ∧ ((8 : Nat) + 14 * 1 = 22) ∧ (_) ∧ (((min (((lnB v) : Nat) : Int) 23) : Int) = 14) ∧ ((14 : Nat) < 24) ∧ ((8 : Nat) + 14 * 1 = 22)) (l' := [(2, rV 0 0), (4, rV 1 0)]) (g' := [(0, some (28, .ds [iD li, D.lit (.slice none 0 0), iD 0, iD 0, iD 0, iD 0, iD 0, iD 0, iD b0, iD b1, iD b2, iD b3, iD b4, iD b5, iD b6, iD b7, iD b8, iD b9, iD b10, iD b11, iD b12, iD b13, iD (b14 + 1), iD b15, iD b16, iD b17, iD b18, iD b19, iD b20, iD b21, iD b22, iD b23])), (1, some (28, .ds [iD 0, D.lit (.slice none 0 0), iD 0, iD 0, iD 0, iD 0, iD 0, iD 0, iD 0, iD 0, iD 0, iD 0, iD 0, iD 0, iD 0, iD 0, iD 0, iD 0, iD 0, iD 0, iD 0, iD 0, iD 0, iD 0, iD 0, iD 0, iD 0, iD 0, iD 0, iD 0, iD 0, iD 0]))]) (nx' := 2) (by kernel_rfl) ⟨(by first | rfl | omega), (by omega), (by omega), (R_ctd b14 (by omega)), (by first | rfl | omega), (by omega), (by omega)⟩ ?_
  refine AW.rgs [.no, .no, .no] [4, 5] [1] (P := True) (l' := [(4, rV 1 0), (5, iV 0)]) (g' := [(1, some (28, .ds [iD li, D.lit (.slice none 0 0), iD 0, iD 0, iD 0, iD 0, iD 0, iD 0, iD b0, iD b1, iD b2, iD b3, iD b4, iD b5, iD b6, iD b7, iD b8, iD b9, iD b10, iD b11, iD b12, iD b13, iD (b14 + 1), iD b15, iD b16, iD b17, iD b18, iD b19, iD b20, iD b21, iD b22, iD b23]))]) (nx' := 2) (by kernel_rfl) trivial ?_
  refine AW.ret ?_
  exact EndP.of (.inr rfl) [] (P := ((li : Int) = li) ∧ ((.slice none 0 0 : Value) = .slice none 0 0) ∧ ((0 : Int) = 0) ∧ ((0 : Int) = 0) ∧ ((0 : Int) = 0) ∧ ((0 : Int) = 0) ∧ ((0 : Int) = 0) ∧ ((0 : Int) = 0) ∧ ((b0 : Int) = b0) ∧ ((b1 : Int) = b1) ∧ ((b2 : Int) = b2) ∧ ((b3 : Int) = b3) ∧ ((b4 : Int) = b4) ∧ ((b5 : Int) = b5) ∧ ((b6 : Int) = b6) ∧ ((b7 : Int) = b7) ∧ ((b8 : Int) = b8) ∧ ((b9 : Int) = b9) ∧ ((b10 : Int) = b10) ∧ ((b11 : Int) = b11) ∧ ((b12 : Int) = b12) ∧ ((b13 : Int) = b13) ∧ (((b14 + 1) : Int) = (b14 + 1)) ∧ ((b15 : Int) = b15) ∧ ((b16 : Int) = b16) ∧ ((b17 : Int) = b17) ∧ ((b18 : Int) = b18) ∧ ((b19 : Int) = b19) ∧ ((b20 : Int) = b20) ∧ ((b21 : Int) = b21) ∧ ((b22 : Int) = b22) ∧ ((b23 : Int) = b23) ∧ ((0 : Int) = 0)) (by kernel_rfl) ⟨rfl, rfl, rfl, rfl, rfl, rfl, rfl, rfl, rfl, rfl, rfl, rfl, rfl, rfl, rfl, rfl, rfl, rfl, rfl, rfl, rfl, rfl, rfl, rfl, rfl, rfl, rfl, rfl, rfl, rfl, rfl, rfl, rfl⟩

set_option maxHeartbeats 4000000 in
set_option maxRecDepth 100000 in
theorem R_ms15 (li b0 b1 b2 b3 b4 b5 b6 b7 b8 b9 b10 b11 b12 b13 b14 b15 b16 b17 b18 b19 b20 b21 b22 b23 v : Int) (hli : 1 ≤ li ∧ li ≤ 256) (hB : bkOk [b0, b1, b2, b3, b4, b5, b6, b7, b8, b9, b10, b11, b12, b13, b14, b15, b16, b17, b18, b19, b20, b21, b22, b23]) (hv : 0 ≤ v ∧ v < 4194304) (hk : lnB v = 15) : Fun 6 [.agg [iC li, .d (D.lit (.slice none 0 0)), iC 0, iC 0, iC 0, iC 0, iC 0, iC 0, iC b0, iC b1, iC b2, iC b3, iC b4, iC b5, iC b6, iC b7, iC b8, iC b9, iC b10, iC b11, iC b12, iC b13, iC b14, iC b15, iC b16, iC b17, iC b18, iC b19, iC b20, iC b21, iC b22, iC b23], iE v] (toG []) 0 (.tup [.agg [iC li, .d (D.lit (.slice none 0 0)), iC 0, iC 0, iC 0, iC 0, iC 0, iC 0, iC b0, iC b1, iC b2, iC b3, iC b4, iC b5, iC b6, iC b7, iC b8, iC b9, iC b10, iC b11, iC b12, iC b13, iC b14, iC (b15 + 1), iC b16, iC b17, iC b18, iC b19, iC b20, iC b21, iC b22, iC b23], iE 0]) (toG []) 0 := by
  have hb0 : 0 ≤ b0 ∧ b0 ≤ 1000 := hB 0 (by omega)
  have hb1 : 0 ≤ b1 ∧ b1 ≤ 1000 := hB 1 (by omega)
  have hb2 : 0 ≤ b2 ∧ b2 ≤ 1000 := hB 2 (by omega)
  have hb3 : 0 ≤ b3 ∧ b3 ≤ 1000 := hB 3 (by omega)
  have hb4 : 0 ≤ b4 ∧ b4 ≤ 1000 := hB 4 (by omega)
  have hb5 : 0 ≤ b5 ∧ b5 ≤ 1000 := hB 5 (by omega)
  have hb6 : 0 ≤ b6 ∧ b6 ≤ 1000 := hB 6 (by omega)
  have hb7 : 0 ≤ b7 ∧ b7 ≤ 1000 := hB 7 (by omega)
  have hb8 : 0 ≤ b8 ∧ b8 ≤ 1000 := hB 8 (by omega)
  have hb9 : 0 ≤ b9 ∧ b9 ≤ 1000 := hB 9 (by omega)
  have hb10 : 0 ≤ b10 ∧ b10 ≤ 1000 := hB 10 (by omega)
  have hb11 : 0 ≤ b11 ∧ b11 ≤ 1000 := hB 11 (by omega)
  have hb12 : 0 ≤ b12 ∧ b12 ≤ 1000 := hB 12 (by omega)
  have hb13 : 0 ≤ b13 ∧ b13 ≤ 1000 := hB 13 (by omega)
  have hb14 : 0 ≤ b14 ∧ b14 ≤ 1000 := hB 14 (by omega)
  have hb15 : 0 ≤ b15 ∧ b15 ≤ 1000 := hB 15 (by omega)
  have hb16 : 0 ≤ b16 ∧ b16 ≤ 1000 := hB 16 (by omega)
  have hb17 : 0 ≤ b17 ∧ b17 ≤ 1000 := hB 17 (by omega)
  have hb18 : 0 ≤ b18 ∧ b18 ≤ 1000 := hB 18 (by omega)
  have hb19 : 0 ≤ b19 ∧ b19 ≤ 1000 := hB 19 (by omega)
  have hb20 : 0 ≤ b20 ∧ b20 ≤ 1000 := hB 20 (by omega)
  have hb21 : 0 ≤ b21 ∧ b21 ≤ 1000 := hB 21 (by omega)
  have hb22 : 0 ≤ b22 ∧ b22 ≤ 1000 := hB 22 (by omega)
  have hb23 : 0 ≤ b23 ∧ b23 ≤ 1000 := hB 23 (by omega)
  refine Fun.mk (n := 29) Try.func6 rfl rfl (Nat.le_of_ble_eq_true rfl) ?_
  intro cx hcx
  refine AW.rgs [.no, .no, .no] [1, 2, 4] [0, 1] (P := True) (l' := [(1, iV v), (2, rV 0 0), (4, rV 1 0)]) (g' := [(0, some (28, .ds [iD li, D.lit (.slice none 0 0), iD 0, iD 0, iD 0, iD 0, iD 0, iD 0, iD b0, iD b1, iD b2, iD b3, iD b4, iD b5, iD b6, iD b7, iD b8, iD b9, iD b10, iD b11, iD b12, iD b13, iD b14, iD b15, iD b16, iD b17, iD b18, iD b19, iD b20, iD b21, iD b22, iD b23])), (1, some (28, .ds [iD 0, D.lit (.slice none 0 0), iD 0, iD 0, iD 0, iD 0, iD 0, iD 0, iD 0, iD 0, iD 0, iD 0, iD 0, iD 0, iD 0, iD 0, iD 0, iD 0, iD 0, iD 0, iD 0, iD 0, iD 0, iD 0, iD 0, iD 0, iD 0, iD 0, iD 0, iD 0, iD 0, iD 0]))]) (nx' := 2) (by kernel_rfl) trivial ?_
  refine AW.seq ?_
  refine AW.rgs [.no, .call [] (bV true) [] 0 [some [D.lit (.bool true)]] none, .no] [1, 2, 4, 9] [0, 1] (P := (_)) (l' := [(1, iV v), (2, rV 0 0), (4, rV 1 0), (9, bV false)]) (g' := [(0, some (28, .ds [iD li, D.lit (.slice none 0 0), iD 0, iD 0, iD 0, iD 0, iD 0, iD 0, iD b0, iD b1, iD b2, iD b3, iD b4, iD b5, iD b6, iD b7, iD b8, iD b9, iD b10, iD b11, iD b12, iD b13, iD b14, iD b15, iD b16, iD b17, iD b18, iD b19, iD b20, iD b21, iD b22, iD b23])), (1, some (28, .ds [iD 0, D.lit (.slice none 0 0), iD 0, iD 0, iD 0, iD 0, iD 0, iD 0, iD 0, iD 0, iD 0, iD 0, iD 0, iD 0, iD 0, iD 0, iD 0, iD 0, iD 0, iD 0, iD 0, iD 0, iD 0, iD 0, iD 0, iD 0, iD 0, iD 0, iD 0, iD 0, iD 0, iD 0]))]) (nx' := 2) (by kernel_rfl) (R_val li b0 b1 b2 b3 b4 b5 b6 b7 b8 b9 b10 b11 b12 b13 b14 b15 b16 b17 b18 b19 b20 b21 b22 b23 (by omega) (by first | omega | with_reducible assumption | (simp <;> omega) | rfl | assumption)) ?_
  refine AW.cond_f (.tmp (Look.of rfl)) ?_
  refine AW.skip ?_
  refine AW.seq ?_
  refine AW.rgs [.no, .b false] [1, 2, 4, 12] [0, 1] (P := (¬ (v < 0))) (l' := [(1, iV v), (2, rV 0 0), (4, rV 1 0), (12, bV false)]) (g' := [(0, some (28, .ds [iD li, D.lit (.slice none 0 0), iD 0, iD 0, iD 0, iD 0, iD 0, iD 0, iD b0, iD b1, iD b2, iD b3, iD b4, iD b5, iD b6, iD b7, iD b8, iD b9, iD b10, iD b11, iD b12, iD b13, iD b14, iD b15, iD b16, iD b17, iD b18, iD b19, iD b20, iD b21, iD b22, iD b23])), (1, some (28, .ds [iD 0, D.lit (.slice none 0 0), iD 0, iD 0, iD 0, iD 0, iD 0, iD 0, iD 0, iD 0, iD 0, iD 0, iD 0, iD 0, iD 0, iD 0, iD 0, iD 0, iD 0, iD 0, iD 0, iD 0, iD 0, iD 0, iD 0, iD 0, iD 0, iD 0, iD 0, iD 0, iD 0, iD 0]))]) (nx' := 2) (by kernel_rfl) (by omega) ?_
  refine AW.cond_f (.tmp (Look.of rfl)) ?_
  refine AW.skip ?_
  refine AW.rgs [.no, .call [] (.e (.agg [iC li, .d (D.lit (.slice none 0 0)), iC 0, iC 0, iC 0, iC 0, iC 0, iC 0, iC b0, iC b1, iC b2, iC b3, iC b4, iC b5, iC b6, iC b7, iC b8, iC b9, iC b10, iC b11, iC b12, iC b13, iC b14, iC b15, iC b16, iC b17, iC b18, iC b19, iC b20, iC b21, iC b22, iC b23])) [] 0 [some [D.lit (.bool true)]] none, .no] [1, 2, 4] [0, 1] (P := (_)) (l' := [(1, iV v), (2, rV 0 0), (4, rV 1 0)]) (g' := [(0, some (28, .ds [iD li, D.lit (.slice none 0 0), iD 0, iD 0, iD 0, iD 0, iD 0, iD 0, iD b0, iD b1, iD b2, iD b3, iD b4, iD b5, iD b6, iD b7, iD b8, iD b9, iD b10, iD b11, iD b12, iD b13, iD b14, iD b15, iD b16, iD b17, iD b18, iD b19, iD b20, iD b21, iD b22, iD b23])), (1, some (28, .ds [iD 0, D.lit (.slice none 0 0), iD 0, iD 0, iD 0, iD 0, iD 0, iD 0, iD 0, iD 0, iD 0, iD 0, iD 0, iD 0, iD 0, iD 0, iD 0, iD 0, iD 0, iD 0, iD 0, iD 0, iD 0, iD 0, iD 0, iD 0, iD 0, iD 0, iD 0, iD 0, iD 0, iD 0]))]) (nx' := 2) (by kernel_rfl) (R_fr li b0 b1 b2 b3 b4 b5 b6 b7 b8 b9 b10 b11 b12 b13 b14 b15 b16 b17 b18 b19 b20 b21 b22 b23) ?_
  have hx1 : ((lnB v) ≤ 22) := (ln_22 ((by omega)))
  refine AW.rgs [.no, .w, .call [] (iV (((lnB v) : Nat) : Int)) [] 0 [] none, .no, .no] [2, 4, 6] [0, 1] (P := (0 ≤ v ∧ v ≤ 18446744073709551615) ∧ (_)) (l' := [(2, rV 0 0), (4, rV 1 0), (6, iV (min (((lnB v) : Nat) : Int) 23))]) (g' := [(0, some (28, .ds [iD li, D.lit (.slice none 0 0), iD 0, iD 0, iD 0, iD 0, iD 0, iD 0, iD b0, iD b1, iD b2, iD b3, iD b4, iD b5, iD b6, iD b7, iD b8, iD b9, iD b10, iD b11, iD b12, iD b13, iD b14, iD b15, iD b16, iD b17, iD b18, iD b19, iD b20, iD b21, iD b22, iD b23])), (1, some (28, .ds [iD 0, D.lit (.slice none 0 0), iD 0, iD 0, iD 0, iD 0, iD 0, iD 0, iD 0, iD 0, iD 0, iD 0, iD 0, iD 0, iD 0, iD 0, iD 0, iD 0, iD 0, iD 0, iD 0, iD 0, iD 0, iD 0, iD 0, iD 0, iD 0, iD 0, iD 0, iD 0, iD 0, iD 0]))]) (nx' := 2) (by kernel_rfl) ⟨⟨by omega, by omega⟩, (R_Len v (by omega))⟩ ?_
  refine AW.rgs [.no, .no, .no, .n2 15 23, .no, .call [] (iV (b15 + 1)) [] 0 [] none, .no, .n2 15 23, .no] [2, 4] [0, 1] (P := (((min (((lnB v) : Nat) : Int) 23) : Int) = 15) ∧ ((15 : Nat) < 24) ∧ ((8 : Nat) + 15 * 1 = 23) ∧ (_) ∧ (((min (((lnB v) : Nat) : Int) 23) : Int) = 15) ∧ ((15 : Nat) < 24) ∧ ((8 : Nat) + 15 * 1 = 23)) (l' := [(2, rV 0 0), (4, rV 1 0)]) (g' := [(0, some (28, .ds [iD li, D.lit (.slice none 0 0), iD 0, iD 0, iD 0, iD 0, iD 0, iD 0, iD b0, iD b1, iD b2, iD b3, iD b4, iD b5, iD b6, iD b7, iD b8, iD b9, iD b10, iD b11, iD b12, iD b13, iD b14, iD (b15 + 1), iD b16, iD b17, iD b18, iD b19, iD b20, iD b21, iD b22, iD b23])), (1, some (28, .ds [iD 0, D.lit (.slice none 0 0), iD 0, iD 0, iD 0, iD 0, iD 0, iD 0, iD 0, iD 0, iD 0, iD 0, iD 0, iD 0, iD 0, iD 0, iD 0, iD 0, iD 0, iD 0, iD 0, iD 0, iD 0, iD 0, iD 0, iD 0, iD 0, iD 0, iD 0, iD 0, iD 0, iD 0]))]) (nx' := 2) (by kernel_rfl) ⟨(by first | rfl | omega), (by omega), (by omega), (R_ctd b15 (by omega)), (by first | rfl | omega), (by omega), (by omega)⟩ ?_
  refine AW.rgs [.no, .no, .no] [4, 5] [1] (P := True) (l' := [(4, rV 1 0), (5, iV 0)]) (g' := [(1, some (28, .ds [iD li, D.lit (.slice none 0 0), iD 0, iD 0, iD 0, iD 0, iD 0, iD 0, iD b0, iD b1, iD b2, iD b3, iD b4, iD b5, iD b6, iD b7, iD b8, iD b9, iD b10, iD b11, iD b12, iD b13, iD b14, iD (b15 + 1), iD b16, iD b17, iD b18, iD b19, iD b20, iD b21, iD b22, iD b23]))]) (nx' := 2) (by kernel_rfl) trivial ?_
  refine AW.ret ?_
  exact EndP.of (.inr rfl) [] (P := ((li : Int) = li) ∧ ((.slice none 0 0 : Value) = .slice none 0 0) ∧ ((0 : Int) = 0) ∧ ((0 : Int) = 0) ∧ ((0 : Int) = 0) ∧ ((0 : Int) = 0) ∧ ((0 : Int) = 0) ∧ ((0 : Int) = 0) ∧ ((b0 : Int) = b0) ∧ ((b1 : Int) = b1) ∧ ((b2 : Int) = b2) ∧ ((b3 : Int) = b3) ∧ ((b4 : Int) = b4) ∧ ((b5 : Int) = b5) ∧ ((b6 : Int) = b6) ∧ ((b7 : Int) = b7) ∧ ((b8 : Int) = b8) ∧ ((b9 : Int) = b9) ∧ ((b10 : Int) = b10) ∧ ((b11 : Int) = b11) ∧ ((b12 : Int) = b12) ∧ ((b13 : Int) = b13) ∧ ((b14 : Int) = b14) ∧ (((b15 + 1) : Int) = (b15 + 1)) ∧ ((b16 : Int) = b16) ∧ ((b17 : Int) = b17) ∧ ((b18 : Int) = b18) ∧ ((b19 : Int) = b19) ∧ ((b20 : Int) = b20) ∧ ((b21 : Int) = b21) ∧ ((b22 : Int) = b22) ∧ ((b23 : Int) = b23) ∧ ((0 : Int) = 0)) (by kernel_rfl) ⟨rfl, rfl, rfl, rfl, rfl, rfl, rfl, rfl, rfl, rfl, rfl, rfl, rfl, rfl, rfl, rfl, rfl, rfl, rfl, rfl, rfl, rfl, rfl, rfl, rfl, rfl, rfl, rfl, rfl, rfl, rfl, rfl, rfl⟩

set_option maxHeartbeats 4000000 in
set_option maxRecDepth 100000 in
theorem R_ms16 (li b0 b1 b2 b3 b4 b5 b6 b7 b8 b9 b10 b11 b12 b13 b14 b15 b16 b17 b18 b19 b20 b21 b22 b23 v : Int) (hli : 1 ≤ li ∧ li ≤ 256) (hB : bkOk [b0, b1, b2, b3, b4, b5, b6, b7, b8, b9, b10, b11, b12, b13, b14, b15, b16, b17, b18, b19, b20, b21, b22, b23]) (hv : 0 ≤ v ∧ v < 4194304) (hk : lnB v = 16) : Fun 6 [.agg [iC li, .d (D.lit (.slice none 0 0)), iC 0, iC 0, iC 0, iC 0, iC 0, iC 0, iC b0, iC b1, iC b2, iC b3, iC b4, iC b5, iC b6, iC b7, iC b8, iC b9, iC b10, iC b11, iC b12, iC b13, iC b14, iC b15, iC b16, iC b17, iC b18, iC b19, iC b20, iC b21, iC b22, iC b23], iE v] (toG []) 0 (.tup [.agg [iC li, .d (D.lit (.slice none 0 0)), iC 0, iC 0, iC 0, iC 0, iC 0, iC 0, iC b0, iC b1, iC b2, iC b3, iC b4, iC b5, iC b6, iC b7, iC b8, iC b9, iC b10, iC b11, iC b12, iC b13, iC b14, iC b15, iC (b16 + 1), iC b17, iC b18, iC b19, iC b20, iC b21, iC b22, iC b23], iE 0]) (toG []) 0 := by
  have hb0 : 0 ≤ b0 ∧ b0 ≤ 1000 := hB 0 (by omega)
  have hb1 : 0 ≤ b1 ∧ b1 ≤ 1000 := hB 1 (by omega)
  have hb2 : 0 ≤ b2 ∧ b2 ≤ 1000 := hB 2 (by omega)
  have hb3 : 0 ≤ b3 ∧ b3 ≤ 1000 := hB 3 (by omega)
  have hb4 : 0 ≤ b4 ∧ b4 ≤ 1000 := hB 4 (by omega)
  have hb5 : 0 ≤ b5 ∧ b5 ≤ 1000 := hB 5 (by omega)
  have hb6 : 0 ≤ b6 ∧ b6 ≤ 1000 := hB 6 (by omega)
  have hb7 : 0 ≤ b7 ∧ b7 ≤ 1000 := hB 7 (by omega)
  have hb8 : 0 ≤ b8 ∧ b8 ≤ 1000 := hB 8 (by omega)
  have hb9 : 0 ≤ b9 ∧ b9 ≤ 1000 := hB 9 (by omega)
  have hb10 : 0 ≤ b10 ∧ b10 ≤ 1000 := hB 10 (by omega)
  have hb11 : 0 ≤ b11 ∧ b11 ≤ 1000 := hB 11 (by omega)
  have hb12 : 0 ≤ b12 ∧ b12 ≤ 1000 := hB 12 (by omega)
  have hb13 : 0 ≤ b13 ∧ b13 ≤ 1000 := hB 13 (by omega)
  have hb14 : 0 ≤ b14 ∧ b14 ≤ 1000 := hB 14 (by omega)
  have hb15 : 0 ≤ b15 ∧ b15 ≤ 1000 := hB 15 (by omega)
  have hb16 : 0 ≤ b16 ∧ b16 ≤ 1000 := hB 16 (by omega)
  have hb17 : 0 ≤ b17 ∧ b17 ≤ 1000 := hB 17 (by omega)
  have hb18 : 0 ≤ b18 ∧ b18 ≤ 1000 := hB 18 (by omega)
  have hb19 : 0 ≤ b19 ∧ b19 ≤ 1000 := hB 19 (by omega)
  have hb20 : 0 ≤ b20 ∧ b20 ≤ 1000 := hB 20 (by omega)
  have hb21 : 0 ≤ b21 ∧ b21 ≤ 1000 := hB 21 (by omega)
  have hb22 : 0 ≤ b22 ∧ b22 ≤ 1000 := hB 22 (by omega)
  have hb23 : 0 ≤ b23 ∧ b23 ≤ 1000 := hB 23 (by omega)
  refine Fun.mk (n := 29) Try.func6 rfl rfl (Nat.le_of_ble_eq_true rfl) ?_
  intro cx hcx
  refine AW.rgs [.no, .no, .no] [1, 2, 4] [0, 1] (P := True) (l' := [(1, iV v), (2, rV 0 0), (4, rV 1 0)]) (g' := [(0, some (28, .ds [iD li, D.lit (.slice none 0 0), iD 0, iD 0, iD 0, iD 0, iD 0, iD 0, iD b0, iD b1, iD b2, iD b3, iD b4, iD b5, iD b6, iD b7, iD b8, iD b9, iD b10, iD b11, iD b12, iD b13, iD b14, iD b15, iD b16, iD b17, iD b18, iD b19, iD b20, iD b21, iD b22, iD b23])), (1, some (28, .ds [iD 0, D.lit (.slice none 0 0), iD 0, iD 0, iD 0, iD 0, iD 0, iD 0, iD 0, iD 0, iD 0, iD 0, iD 0, iD 0, iD 0, iD 0, iD 0, iD 0, iD 0, iD 0, iD 0, iD 0, iD 0, iD 0, iD 0, iD 0, iD 0, iD 0, iD 0, iD 0, iD 0, iD 0]))]) (nx' := 2) (by kernel_rfl) trivial ?_
  refine AW.seq ?_
  refine AW.rgs [.no, .call [] (bV true) [] 0 [some [D.lit (.bool true)]] none, .no] [1, 2, 4, 9] [0, 1] (P := (_)) (l' := [(1, iV v), (2, rV 0 0), (4, rV 1 0), (9, bV false)]) (g' := [(0, some (28, .ds [iD li, D.lit (.slice none 0 0), iD 0, iD 0, iD 0, iD 0, iD 0, iD 0, iD b0, iD b1, iD b2, iD b3, iD b4, iD b5, iD b6, iD b7, iD b8, iD b9, iD b10, iD b11, iD b12, iD b13, iD b14, iD b15, iD b16, iD b17, iD b18, iD b19, iD b20, iD b21, iD b22, iD b23])), (1, some (28, .ds [iD 0, D.lit (.slice none 0 0), iD 0, iD 0, iD 0, iD 0, iD 0, iD 0, iD 0, iD 0, iD 0, iD 0, iD 0, iD 0, iD 0, iD 0, iD 0, iD 0, iD 0, iD 0, iD 0, iD 0, iD 0, iD 0, iD 0, iD 0, iD 0, iD 0, iD 0, iD 0, iD 0, iD 0]))]) (nx' := 2) (by kernel_rfl) (R_val li b0 b1 b2 b3 b4 b5 b6 b7 b8 b9 b10 b11 b12 b13 b14 b15 b16 b17 b18 b19 b20 b21 b22 b23 (by omega) (by first | omega | with_reducible assumption | (simp <;> omega) | rfl | assumption)) ?_
  refine AW.cond_f (.tmp (Look.of rfl)) ?_
  refine AW.skip ?_
  refine AW.seq ?_
  refine AW.rgs [.no, .b false] [1, 2, 4, 12] [0, 1] (P := (¬ (v < 0))) (l' := [(1, iV v), (2, rV 0 0), (4, rV 1 0), (12, bV false)]) (g' := [(0, some (28, .ds [iD li, D.lit (.slice none 0 0), iD 0, iD 0, iD 0, iD 0, iD 0, iD 0, iD b0, iD b1, iD b2, iD b3, iD b4, iD b5, iD b6, iD b7, iD b8, iD b9, iD b10, iD b11, iD b12, iD b13, iD b14, iD b15, iD b16, iD b17, iD b18, iD b19, iD b20, iD b21, iD b22, iD b23])), (1, some (28, .ds [iD 0, D.lit (.slice none 0 0), iD 0, iD 0, iD 0, iD 0, iD 0, iD 0, iD 0, iD 0, iD 0, iD 0, iD 0, iD 0, iD 0, iD 0, iD 0, iD 0, iD 0, iD 0, iD 0, iD 0, iD 0, iD 0, iD 0, iD 0, iD 0, iD 0, iD 0, iD 0, iD 0, iD 0]))]) (nx' := 2) (by kernel_rfl) (by omega) ?_
  refine AW.cond_f (.tmp (Look.of rfl)) ?_
  refine AW.skip ?_
  refine AW.rgs [.no, .call [] (.e (.agg [iC li, .d (D.lit (.slice none 0 0)), iC 0, iC 0, iC 0, iC 0, iC 0, iC 0, iC b0, iC b1, iC b2, iC b3, iC b4, iC b5, iC b6, iC b7, iC b8, iC b9, iC b10, iC b11, iC b12, iC b13, iC b14, iC b15, iC b16, iC b17, iC b18, iC b19, iC b20, iC b21, iC b22, iC b23])) [] 0 [some [D.lit (.bool true)]] none, .no] [1, 2, 4] [0, 1] (P := (_)) (l' := [(1, iV v), (2, rV 0 0), (4, rV 1 0)]) (g' := [(0, some (28, .ds [iD li, D.lit (.slice none 0 0), iD 0, iD 0, iD 0, iD 0, iD 0, iD 0, iD b0, iD b1, iD b2, iD b3, iD b4, iD b5, iD b6, iD b7, iD b8, iD b9, iD b10, iD b11, iD b12, iD b13, iD b14, iD b15, iD b16, iD b17, iD b18, iD b19, iD b20, iD b21, iD b22, iD b23])), (1, some (28, .ds [iD 0, D.lit (.slice none 0 0), iD 0, iD 0, iD 0, iD 0, iD 0, iD 0, iD 0, iD 0, iD 0, iD 0, iD 0, iD 0, iD 0, iD 0, iD 0, iD 0, iD 0, iD 0, iD 0, iD 0, iD 0, iD 0, iD 0, iD 0, iD 0, iD 0, iD 0, iD 0, iD 0, iD 0]))]) (nx' := 2) (by kernel_rfl) (R_fr li b0 b1 b2 b3 b4 b5 b6 b7 b8 b9 b10 b11 b12 b13 b14 b15 b16 b17 b18 b19 b20 b21 b22 b23) ?_
  have hx1 : ((lnB v) ≤ 22) := (ln_22 ((by omega)))
  refine AW.rgs [.no, .w, .call [] (iV (((lnB v) : Nat) : Int)) [] 0 [] none, .no, .no] [2, 4, 6] [0, 1] (P := (0 ≤ v ∧ v ≤ 18446744073709551615) ∧ (_)) (l' := [(2, rV 0 0), (4, rV 1 0), (6, iV (min (((lnB v) : Nat) : Int) 23))]) (g' := [(0, some (28, .ds [iD li, D.lit (.slice none 0 0), iD 0, iD 0, iD 0, iD 0, iD 0, iD 0, iD b0, iD b1, iD b2, iD b3, iD b4, iD b5, iD b6, iD b7, iD b8, iD b9, iD b10, iD b11, iD b12, iD b13, iD b14, iD b15, iD b16, iD b17, iD b18, iD b19, iD b20, iD b21, iD b22, iD b23])), (1, some (28, .ds [iD 0, D.lit (.slice none 0 0), iD 0, iD 0, iD 0, iD 0, iD 0, iD 0, iD 0, iD 0, iD 0, iD 0, iD 0, iD 0, iD 0, iD 0, iD 0, iD 0, iD 0, iD 0, iD 0, iD 0, iD 0, iD 0, iD 0, iD 0, iD 0, iD 0, iD 0, iD 0, iD 0, iD 0]))]) (nx' := 2) (by kernel_rfl) ⟨⟨by omega, by omega⟩, (R_Len v (by omega))⟩ ?_
  refine AW.rgs [.no, .no, .no, .n2 16 24, .no, .call [] (iV (b16 + 1)) [] 0 [] none, .no, .n2 16 24, .no] [2, 4] [0, 1] (P := (((min (((lnB v) : Nat) : Int) 23) : Int) = 16) ∧ ((16 : Nat) < 24) ∧ ((8 : Nat) + 16 * 1 = 24) ∧ (_) ∧ (((min (((lnB v) : Nat) : Int) 23) : Int) = 16) ∧ ((16 : Nat) < 24) ∧ ((8 : Nat) + 16 * 1 = 24)) (l' := [(2, rV 0 0), (4, rV 1 0)]) (g' := [(0, some (28, .ds [iD li, D.lit (.slice none 0 0), iD 0, iD 0, iD 0, iD 0, iD 0, iD 0, iD b0, iD b1, iD b2, iD b3, iD b4, iD b5, iD b6, iD b7, iD b8, iD b9, iD b10, iD b11, iD b12, iD b13, iD b14, iD b15, iD (b16 + 1), iD b17, iD b18, iD b19, iD b20, iD b21, iD b22, iD b23])), (1, some (28, .ds [iD 0, D.lit (.slice none 0 0), iD 0, iD 0, iD 0, iD 0, iD 0, iD 0, iD 0, iD 0, iD 0, iD 0, iD 0, iD 0, iD 0, iD 0, iD 0, iD 0, iD 0, iD 0, iD 0, iD 0, iD 0, iD 0, iD 0, iD 0, iD 0, iD 0, iD 0, iD 0, iD 0, iD 0]))]) (nx' := 2) (by kernel_rfl) ⟨(by first | rfl | omega), (by omega), (by omega), (R_ctd b16 (by omega)), (by first | rfl | omega), (by omega), (by omega)⟩ ?_
  refine AW.rgs [.no, .no, .no] [4, 5] [1] (P := True) (l' := [(4, rV 1 0), (5, iV 0)]) (g' := [(1, some (28, .ds [iD li, D.lit (.slice none 0 0), iD 0, iD 0, iD 0, iD 0, iD 0, iD 0, iD b0, iD b1, iD b2, iD b3, iD b4, iD b5, iD b6, iD b7, iD b8, iD b9, iD b10, iD b11, iD b12, iD b13, iD b14, iD b15, iD (b16 + 1), iD b17, iD b18, iD b19, iD b20, iD b21, iD b22, iD b23]))]) (nx' := 2) (by kernel_rfl) trivial ?_
  refine AW.ret ?_
  exact EndP.of (.inr rfl) [] (P := ((li : Int) = li) ∧ ((.slice none 0 0 : Value) = .slice none 0 0) ∧ ((0 : Int) = 0) ∧ ((0 : Int) = 0) ∧ ((0 : Int) = 0) ∧ ((0 : Int) = 0) ∧ ((0 : Int) = 0) ∧ ((0 : Int) = 0) ∧ ((b0 : Int) = b0) ∧ ((b1 : Int) = b1) ∧ ((b2 : Int) = b2) ∧ ((b3 : Int) = b3) ∧ ((b4 : Int) = b4) ∧ ((b5 : Int) = b5) ∧ ((b6 : Int) = b6) ∧ ((b7 : Int) = b7) ∧ ((b8 : Int) = b8) ∧ ((b9 : Int) = b9) ∧ ((b10 : Int) = b10) ∧ ((b11 : Int) = b11) ∧ ((b12 : Int) = b12) ∧ ((b13 : Int) = b13) ∧ ((b14 : Int) = b14) ∧ ((b15 : Int) = b15) ∧ (((b16 + 1) : Int) = (b16 + 1)) ∧ ((b17 : Int) = b17) ∧ ((b18 : Int) = b18) ∧ ((b19 : Int) = b19) ∧ ((b20 : Int) = b20) ∧ ((b21 : Int) = b21) ∧ ((b22 : Int) = b22) ∧ ((b23 : Int) = b23) ∧ ((0 : Int) = 0)) (by kernel_rfl) ⟨rfl, rfl, rfl, rfl, rfl, rfl, rfl, rfl, rfl, rfl, rfl, rfl, rfl, rfl, rfl, rfl, rfl, rfl, rfl, rfl, rfl, rfl, rfl, rfl, rfl, rfl, rfl, rfl, rfl, rfl, rfl, rfl, rfl⟩

set_option maxHeartbeats 4000000 in
set_option maxRecDepth 100000 in
theorem R_ms17 (li b0 b1 b2 b3 b4 b5 b6 b7 b8 b9 b10 b11 b12 b13 b14 b15 b16 b17 b18 b19 b20 b21 b22 b23 v : Int) (hli : 1 ≤ li ∧ li ≤ 256) (hB : bkOk [b0, b1, b2, b3, b4, b5, b6, b7, b8, b9, b10, b11, b12, b13, b14, b15, b16, b17, b18, b19, b20, b21, b22, b23]) (hv : 0 ≤ v ∧ v < 4194304) (hk : lnB v = 17) : Fun 6 [.agg [iC li, .d (D.lit (.slice none 0 0)), iC 0, iC 0, iC 0, iC 0, iC 0, iC 0, iC b0, iC b1, iC b2, iC b3, iC b4, iC b5, iC b6, iC b7, iC b8, iC b9, iC b10, iC b11, iC b12, iC b13, iC b14, iC b15, iC b16, iC b17, iC b18, iC b19, iC b20, iC b21, iC b22, iC b23], iE v] (toG []) 0 (.tup [.agg [iC li, .d (D.lit (.slice none 0 0)), iC 0, iC 0, iC 0, iC 0, iC 0, iC 0, iC b0, iC b1, iC b2, iC b3, iC b4, iC b5, iC b6, iC b7, iC b8, iC b9, iC b10, iC b11, iC b12, iC b13, iC b14, iC b15, iC b16, iC (b17 + 1), iC b18, iC b19, iC b20, iC b21, iC b22, iC b23], iE 0]) (toG []) 0 := by
  have hb0 : 0 ≤ b0 ∧ b0 ≤ 1000 := hB 0 (by omega)
  have hb1 : 0 ≤ b1 ∧ b1 ≤ 1000 := hB 1 (by omega)
  have hb2 : 0 ≤ b2 ∧ b2 ≤ 1000 := hB 2 (by omega)
  have hb3 : 0 ≤ b3 ∧ b3 ≤ 1000 := hB 3 (by omega)
  have hb4 : 0 ≤ b4 ∧ b4 ≤ 1000 := hB 4 (by omega)
  have hb5 : 0 ≤ b5 ∧ b5 ≤ 1000 := hB 5 (by omega)
  have hb6 : 0 ≤ b6 ∧ b6 ≤ 1000 := hB 6 (by omega)
  have hb7 : 0 ≤ b7 ∧ b7 ≤ 1000 := hB 7 (by omega)
  have hb8 : 0 ≤ b8 ∧ b8 ≤ 1000 := hB 8 (by omega)
  have hb9 : 0 ≤ b9 ∧ b9 ≤ 1000 := hB 9 (by omega)
  have hb10 : 0 ≤ b10 ∧ b10 ≤ 1000 := hB 10 (by omega)
  have hb11 : 0 ≤ b11 ∧ b11 ≤ 1000 := hB 11 (by omega)
  have hb12 : 0 ≤ b12 ∧ b12 ≤ 1000 := hB 12 (by omega)
  have hb13 : 0 ≤ b13 ∧ b13 ≤ 1000 := hB 13 (by omega)
  have hb14 : 0 ≤ b14 ∧ b14 ≤ 1000 := hB 14 (by omega)
  have hb15 : 0 ≤ b15 ∧ b15 ≤ 1000 := hB 15 (by omega)
  have hb16 : 0 ≤ b16 ∧ b16 ≤ 1000 := hB 16 (by omega)
  have hb17 : 0 ≤ b17 ∧ b17 ≤ 1000 := hB 17 (by omega)
  have hb18 : 0 ≤ b18 ∧ b18 ≤ 1000 := hB 18 (by omega)
  have hb19 : 0 ≤ b19 ∧ b19 ≤ 1000 := hB 19 (by omega)
  have hb20 : 0 ≤ b20 ∧ b20 ≤ 1000 := hB 20 (by omega)
  have hb21 : 0 ≤ b21 ∧ b21 ≤ 1000 := hB 21 (by omega)
  have hb22 : 0 ≤ b22 ∧ b22 ≤ 1000 := hB 22 (by omega)
  have hb23 : 0 ≤ b23 ∧ b23 ≤ 1000 := hB 23 (by omega)
  refine Fun.mk (n := 29) Try.func6 rfl rfl (Nat.le_of_ble_eq_true rfl) ?_
  intro cx hcx
  refine AW.rgs [.no, .no, .no] [1, 2, 4] [0, 1] (P := True) (l' := [(1, iV v), (2, rV 0 0), (4, rV 1 0)]) (g' := [(0, some (28, .ds [iD li, D.lit (.slice none 0 0), iD 0, iD 0, iD 0, iD 0, iD 0, iD 0, iD b0, iD b1, iD b2, iD b3, iD b4, iD b5, iD b6, iD b7, iD b8, iD b9, iD b10, iD b11, iD b12, iD b13, iD b14, iD b15, iD b16, iD b17, iD b18, iD b19, iD b20, iD b21, iD b22, iD b23])), (1, some (28, .ds [iD 0, D.lit (.slice none 0 0), iD 0, iD 0, iD 0, iD 0, iD 0, iD 0, iD 0, iD 0, iD 0, iD 0, iD 0, iD 0, iD 0, iD 0, iD 0, iD 0, iD 0, iD 0, iD 0, iD 0, iD 0, iD 0, iD 0, iD 0, iD 0, iD 0, iD 0, iD 0, iD 0, iD 0]))]) (nx' := 2) (by kernel_rfl) trivial ?_
  refine AW.seq ?_
  refine AW.rgs [.no, .call [] (bV true) [] 0 [some [D.lit (.bool true)]] none, .no] [1, 2, 4, 9] [0, 1] (P := (_)) (l' := [(1, iV v), (2, rV 0 0), (4, rV 1 0), (9, bV false)]) (g' := [(0, some (28, .ds [iD li, D.lit (.slice none 0 0), iD 0, iD 0, iD 0, iD 0, iD 0, iD 0, iD b0, iD b1, iD b2, iD b3, iD b4, iD b5, iD b6, iD b7, iD b8, iD b9, iD b10, iD b11, iD b12, iD b13, iD b14, iD b15, iD b16, iD b17, iD b18, iD b19, iD b20, iD b21, iD b22, iD b23])), (1, some (28, .ds [iD 0, D.lit (.slice none 0 0), iD 0, iD 0, iD 0, iD 0, iD 0, iD 0, iD 0, iD 0, iD 0, iD 0, iD 0, iD 0, iD 0, iD 0, iD 0, iD 0, iD 0, iD 0, iD 0, iD 0, iD 0, iD 0, iD 0, iD 0, iD 0, iD 0, iD 0, iD 0, iD 0, iD 0]))]) (nx' := 2) (by kernel_rfl) (R_val li b0 b1 b2 b3 b4 b5 b6 b7 b8 b9 b10 b11 b12 b13 b14 b15 b16 b17 b18 b19 b20 b21 b22 b23 (by omega) (by first | omega | with_reducible assumption | (simp <;> omega) | rfl | assumption)) ?_
  refine AW.cond_f (.tmp (Look.of rfl)) ?_
  refine AW.skip ?_
  refine AW.seq ?_
  refine AW.rgs [.no, .b false] [1, 2, 4, 12] [0, 1] (P := (¬ (v < 0))) (l' := [(1, iV v), (2, rV 0 0), (4, rV 1 0), (12, bV false)]) (g' := [(0, some (28, .ds [iD li, D.lit (.slice none 0 0), iD 0, iD 0, iD 0, iD 0, iD 0, iD 0, iD b0, iD b1, iD b2, iD b3, iD b4, iD b5, iD b6, iD b7, iD b8, iD b9, iD b10, iD b11, iD b12, iD b13, iD b14, iD b15, iD b16, iD b17, iD b18, iD b19, iD b20, iD b21, iD b22, iD b23])), (1, some (28, .ds [iD 0, D.lit (.slice none 0 0), iD 0, iD 0, iD 0, iD 0, iD 0, iD 0, iD 0, iD 0, iD 0, iD 0, iD 0, iD 0, iD 0, iD 0, iD 0, iD 0, iD 0, iD 0, iD 0, iD 0, iD 0, iD 0, iD 0, iD 0, iD 0, iD 0, iD 0, iD 0, iD 0, iD 0]))]) (nx' := 2) (by kernel_rfl) (by omega) ?_
  refine AW.cond_f (.tmp (Look.of rfl)) ?_
  refine AW.skip ?_
  refine AW.rgs [.no, .call [] (.e (.agg [iC li, .d (D.lit (.slice none 0 0)), iC 0, iC 0, iC 0, iC 0, iC 0, iC 0, iC b0, iC b1, iC b2, iC b3, iC b4, iC b5, iC b6, iC b7, iC b8, iC b9, iC b10, iC b11, iC b12, iC b13, iC b14, iC b15, iC b16, iC b17, iC b18, iC b19, iC b20, iC b21, iC b22, iC b23])) [] 0 [some [D.lit (.bool true)]] none, .no] [1, 2, 4] [0, 1] (P := (_)) (l' := [(1, iV v), (2, rV 0 0), (4, rV 1 0)]) (g' := [(0, some (28, .ds [iD li, D.lit (.slice none 0 0), iD 0, iD 0, iD 0, iD 0, iD 0, iD 0, iD b0, iD b1, iD b2, iD b3, iD b4, iD b5, iD b6, iD b7, iD b8, iD b9, iD b10, iD b11, iD b12, iD b13, iD b14, iD b15, iD b16, iD b17, iD b18, iD b19, iD b20, iD b21, iD b22, iD b23])), (1, some (28, .ds [iD 0, D.lit (.slice none 0 0), iD 0, iD 0, iD 0, iD 0, iD 0, iD 0, iD 0, iD 0, iD 0, iD 0, iD 0, iD 0, iD 0, iD 0, iD 0, iD 0, iD 0, iD 0, iD 0, iD 0, iD 0, iD 0, iD 0, iD 0, iD 0, iD 0, iD 0, iD 0, iD 0, iD 0]))]) (nx' := 2) (by kernel_rfl) (R_fr li b0 b1 b2 b3 b4 b5 b6 b7 b8 b9 b10 b11 b12 b13 b14 b15 b16 b17 b18 b19 b20 b21 b22 b23) ?_
  have hx1 : ((lnB v) ≤ 22) := (ln_22 ((by omega)))
  refine AW.rgs [.no, .w, .call [] (iV (((lnB v) : Nat) : Int)) [] 0 [] none, .no, .no] [2, 4, 6] [0, 1] (P := (0 ≤ v ∧ v ≤ 18446744073709551615) ∧ (_)) (l' := [(2, rV 0 0), (4, rV 1 0), (6, iV (min (((lnB v) : Nat) : Int) 23))]) (g' := [(0, some (28, .ds [iD li, D.lit (.slice none 0 0), iD 0, iD 0, iD 0, iD 0, iD 0, iD 0, iD b0, iD b1, iD b2, iD b3, iD b4, iD b5, iD b6, iD b7, iD b8, iD b9, iD b10, iD b11, iD b12, iD b13, iD b14, iD b15, iD b16, iD b17, iD b18, iD b19, iD b20, iD b21, iD b22, iD b23])), (1, some (28, .ds [iD 0, D.lit (.slice none 0 0), iD 0, iD 0, iD 0, iD 0, iD 0, iD 0, iD 0, iD 0, iD 0, iD 0, iD 0, iD 0, iD 0, iD 0, iD 0, iD 0, iD 0, iD 0, iD 0, iD 0, iD 0, iD 0, iD 0, iD 0, iD 0, iD 0, iD 0, iD 0, iD 0, iD 0]))]) (nx' := 2) (by kernel_rfl) ⟨⟨by omega, by omega⟩, (R_Len v (by omega))⟩ ?_
  refine AW.rgs [.no, .no, .no, .n2 17 25, .no, .call [] (iV (b17 + 1)) [] 0 [] none, .no, .n2 17 25, .no] [2, 4] [0, 1] (P := (((min (((lnB v) : Nat) : Int) 23) : Int) = 17) ∧ ((17 : Nat) < 24) ∧ ((8 : Nat) + 17 * 1 = 25) ∧ (_) ∧ (((min (((lnB v) : Nat) : Int) 23) : Int) = 17) ∧ ((17 : Nat) < 24) ∧ ((8 : Nat) + 17 * 1 = 25)) (l' := [(2, rV 0 0), (4, rV 1 0)]) (g' := [(0, some (28, .ds [iD li, D.lit (.slice none 0 0), iD 0, iD 0, iD 0, iD 0, iD 0, iD 0, iD b0, iD b1, iD b2, iD b3, iD b4, iD b5, iD b6, iD b7, iD b8, iD b9, iD b10, iD b11, iD b12, iD b13, iD b14, iD b15, iD b16, iD (b17 + 1), iD b18, iD b19, iD b20, iD b21, iD b22, iD b23])), (1, some (28, .ds [iD 0, D.lit (.slice none 0 0), iD 0, iD 0, iD 0, iD 0, iD 0, iD 0, iD 0, iD 0, iD 0, iD 0, iD 0, iD 0, iD 0, iD 0, iD 0, iD 0, iD 0, iD 0, iD 0, iD 0, iD 0, iD 0, iD 0, iD 0, iD 0, iD 0, iD 0, iD 0, iD 0, iD 0]))]) (nx' := 2) (by kernel_rfl) ⟨(by first | rfl | omega), (by omega), (by omega), (R_ctd b17 (by omega)), (by first | rfl | omega), (by omega), (by omega)⟩ ?_
  refine AW.rgs [.no, .no, .no] [4, 5] [1] (P := True) (l' := [(4, rV 1 0), (5, iV 0)]) (g' := [(1, some (28, .ds [iD li, D.lit (.slice none 0 0), iD 0, iD 0, iD 0, iD 0, iD 0, iD 0, iD b0, iD b1, iD b2, iD b3, iD b4, iD b5, iD b6, iD b7, iD b8, iD b9, iD b10, iD b11, iD b12, iD b13, iD b14, iD b15, iD b16, iD (b17 + 1), iD b18, iD b19, iD b20, iD b21, iD b22, iD b23]))]) (nx' := 2) (by kernel_rfl) trivial ?_
  refine AW.ret ?_
  exact EndP.of (.inr rfl) [] (P := ((li : Int) = li) ∧ ((.slice none 0 0 : Value) = .slice none 0 0) ∧ ((0 : Int) = 0) ∧ ((0 : Int) = 0) ∧ ((0 : Int) = 0) ∧ ((0 : Int) = 0) ∧ ((0 : Int) = 0) ∧ ((0 : Int) = 0) ∧ ((b0 : Int) = b0) ∧ ((b1 : Int) = b1) ∧ ((b2 : Int) = b2) ∧ ((b3 : Int) = b3) ∧ ((b4 : Int) = b4) ∧ ((b5 : Int) = b5) ∧ ((b6 : Int) = b6) ∧ ((b7 : Int) = b7) ∧ ((b8 : Int) = b8) ∧ ((b9 : Int) = b9) ∧ ((b10 : Int) = b10) ∧ ((b11 : Int) = b11) ∧ ((b12 : Int) = b12) ∧ ((b13 : Int) = b13) ∧ ((b14 : Int) = b14) ∧ ((b15 : Int) = b15) ∧ ((b16 : Int) = b16) ∧ (((b17 + 1) : Int) = (b17 + 1)) ∧ ((b18 : Int) = b18) ∧ ((b19 : Int) = b19) ∧ ((b20 : Int) = b20) ∧ ((b21 : Int) = b21) ∧ ((b22 : Int) = b22) ∧ ((b23 : Int) = b23) ∧ ((0 : Int) = 0)) (by kernel_rfl) ⟨rfl, rfl, rfl, rfl, rfl, rfl, rfl, rfl, rfl, rfl, rfl, rfl, rfl, rfl, rfl, rfl, rfl, rfl, rfl, rfl, rfl, rfl, rfl, rfl, rfl, rfl, rfl, rfl, rfl, rfl, rfl, rfl, rfl⟩

set_option maxHeartbeats 4000000 in
set_option maxRecDepth 100000 in
theorem R_ms18 (li b0 b1 b2 b3 b4 b5 b6 b7 b8 b9 b10 b11 b12 b13 b14 b15 b16 b17 b18 b19 b20 b21 b22 b23 v : Int) (hli : 1 ≤ li ∧ li ≤ 256) (hB : bkOk [b0, b1, b2, b3, b4, b5, b6, b7, b8, b9, b10, b11, b12, b13, b14, b15, b16, b17, b18, b19, b20, b21, b22, b23]) (hv : 0 ≤ v ∧ v < 4194304) (hk : lnB v = 18) : Fun 6 [.agg [iC li, .d (D.lit (.slice none 0 0)), iC 0, iC 0, iC 0, iC 0, iC 0, iC 0, iC b0, iC b1, iC b2, iC b3, iC b4, iC b5, iC b6, iC b7, iC b8, iC b9, iC b10, iC b11, iC b12, iC b13, iC b14, iC b15, iC b16, iC b17, iC b18, iC b19, iC b20, iC b21, iC b22, iC b23], iE v] (toG []) 0 (.tup [.agg [iC li, .d (D.lit (.slice none 0 0)), iC 0, iC 0, iC 0, iC 0, iC 0, iC 0, iC b0, iC b1, iC b2, iC b3, iC b4, iC b5, iC b6, iC b7, iC b8, iC b9, iC b10, iC b11, iC b12, iC b13, iC b14, iC b15, iC b16, iC b17, iC (b18 + 1), iC b19, iC b20, iC b21, iC b22, iC b23], iE 0]) (toG []) 0 := by
  have hb0 : 0 ≤ b0 ∧ b0 ≤ 1000 := hB 0 (by omega)
  have hb1 : 0 ≤ b1 ∧ b1 ≤ 1000 := hB 1 (by omega)
  have hb2 : 0 ≤ b2 ∧ b2 ≤ 1000 := hB 2 (by omega)
  have hb3 : 0 ≤ b3 ∧ b3 ≤ 1000 := hB 3 (by omega)
  have hb4 : 0 ≤ b4 ∧ b4 ≤ 1000 := hB 4 (by omega)
  have hb5 : 0 ≤ b5 ∧ b5 ≤ 1000 := hB 5 (by omega)
  have hb6 : 0 ≤ b6 ∧ b6 ≤ 1000 := hB 6 (by omega)
  have hb7 : 0 ≤ b7 ∧ b7 ≤ 1000 := hB 7 (by omega)
  have hb8 : 0 ≤ b8 ∧ b8 ≤ 1000 := hB 8 (by omega)
  have hb9 : 0 ≤ b9 ∧ b9 ≤ 1000 := hB 9 (by omega)
  have hb10 : 0 ≤ b10 ∧ b10 ≤ 1000 := hB 10 (by omega)
  have hb11 : 0 ≤ b11 ∧ b11 ≤ 1000 := hB 11 (by omega)
  have hb12 : 0 ≤ b12 ∧ b12 ≤ 1000 := hB 12 (by omega)
  have hb13 : 0 ≤ b13 ∧ b13 ≤ 1000 := hB 13 (by omega)
  have hb14 : 0 ≤ b14 ∧ b14 ≤ 1000 := hB 14 (by omega)
  have hb15 : 0 ≤ b15 ∧ b15 ≤ 1000 := hB 15 (by omega)
  have hb16 : 0 ≤ b16 ∧ b16 ≤ 1000 := hB 16 (by omega)
  have hb17 : 0 ≤ b17 ∧ b17 ≤ 1000 := hB 17 (by omega)
  have hb18 : 0 ≤ b18 ∧ b18 ≤ 1000 := hB 18 (by omega)
  have hb19 : 0 ≤ b19 ∧ b19 ≤ 1000 := hB 19 (by omega)
  have hb20 : 0 ≤ b20 ∧ b20 ≤ 1000 := hB 20 (by omega)
  have hb21 : 0 ≤ b21 ∧ b21 ≤ 1000 := hB 21 (by omega)
  have hb22 : 0 ≤ b22 ∧ b22 ≤ 1000 := hB 22 (by omega)
  have hb23 : 0 ≤ b23 ∧ b23 ≤ 1000 := hB 23 (by omega)
  refine Fun.mk (n := 29) Try.func6 rfl rfl (Nat.le_of_ble_eq_true rfl) ?_
  intro cx hcx
  refine AW.rgs [.no, .no, .no] [1, 2, 4] [0, 1] (P := True) (l' := [(1, iV v), (2, rV 0 0), (4, rV 1 0)]) (g' := [(0, some (28, .ds [iD li, D.lit (.slice none 0 0), iD 0, iD 0, iD 0, iD 0, iD 0, iD 0, iD b0, iD b1, iD b2, iD b3, iD b4, iD b5, iD b6, iD b7, iD b8, iD b9, iD b10, iD b11, iD b12, iD b13, iD b14, iD b15, iD b16, iD b17, iD b18, iD b19, iD b20, iD b21, iD b22, iD b23])), (1, some (28, .ds [iD 0, D.lit (.slice none 0 0), iD 0, iD 0, iD 0, iD 0, iD 0, iD 0, iD 0, iD 0, iD 0, iD 0, iD 0, iD 0, iD 0, iD 0, iD 0, iD 0, iD 0, iD 0, iD 0, iD 0, iD 0, iD 0, iD 0, iD 0, iD 0, iD 0, iD 0, iD 0, iD 0, iD 0]))]) (nx' := 2) (by kernel_rfl) trivial ?_
  refine AW.seq ?_
  refine AW.rgs [.no, .call [] (bV true) [] 0 [some [D.lit (.bool true)]] none, .no] [1, 2, 4, 9] [0, 1] (P := (_)) (l' := [(1, iV v), (2, rV 0 0), (4, rV 1 0), (9, bV false)]) (g' := [(0, some (28, .ds [iD li, D.lit (.slice none 0 0), iD 0, iD 0, iD 0, iD 0, iD 0, iD 0, iD b0, iD b1, iD b2, iD b3, iD b4, iD b5, iD b6, iD b7, iD b8, iD b9, iD b10, iD b11, iD b12, iD b13, iD b14, iD b15, iD b16, iD b17, iD b18, iD b19, iD b20, iD b21, iD b22, iD b23])), (1, some (28, .ds [iD 0, D.lit (.slice none 0 0), iD 0, iD 0, iD 0, iD 0, iD 0, iD 0, iD 0, iD 0, iD 0, iD 0, iD 0, iD 0, iD 0, iD 0, iD 0, iD 0, iD 0, iD 0, iD 0, iD 0, iD 0, iD 0, iD 0, iD 0, iD 0, iD 0, iD 0, iD 0, iD 0, iD 0]))]) (nx' := 2) (by kernel_rfl) (R_val li b0 b1 b2 b3 b4 b5 b6 b7 b8 b9 b10 b11 b12 b13 b14 b15 b16 b17 b18 b19 b20 b21 b22 b23 (by omega) (by first | omega | with_reducible assumption | (simp <;> omega) | rfl | assumption)) ?_
  refine AW.cond_f (.tmp (Look.of rfl)) ?_
  refine AW.skip ?_
  refine AW.seq ?_
  refine AW.rgs [.no, .b false] [1, 2, 4, 12] [0, 1] (P := (¬ (v < 0))) (l' := [(1, iV v), (2, rV 0 0), (4, rV 1 0), (12, bV false)]) (g' := [(0, some (28, .ds [iD li, D.lit (.slice none 0 0), iD 0, iD 0, iD 0, iD 0, iD 0, iD 0, iD b0, iD b1, iD b2, iD b3, iD b4, iD b5, iD b6, iD b7, iD b8, iD b9, iD b10, iD b11, iD b12, iD b13, iD b14, iD b15, iD b16, iD b17, iD b18, iD b19, iD b20, iD b21, iD b22, iD b23])), (1, some (28, .ds [iD 0, D.lit (.slice none 0 0), iD 0, iD 0, iD 0, iD 0, iD 0, iD 0, iD 0, iD 0, iD 0, iD 0, iD 0, iD 0, iD 0, iD 0, iD 0, iD 0, iD 0, iD 0, iD 0, iD 0, iD 0, iD 0, iD 0, iD 0, iD 0, iD 0, iD 0, iD 0, iD 0, iD 0]))]) (nx' := 2) (by kernel_rfl) (by omega) ?_
  refine AW.cond_f (.tmp (Look.of rfl)) ?_
  refine AW.skip ?_
  refine AW.rgs [.no, .call [] (.e (.agg [iC li, .d (D.lit (.slice none 0 0)), iC 0, iC 0, iC 0, iC 0, iC 0, iC 0, iC b0, iC b1, iC b2, iC b3, iC b4, iC b5, iC b6, iC b7, iC b8, iC b9, iC b10, iC b11, iC b12, iC b13, iC b14, iC b15, iC b16, iC b17, iC b18, iC b19, iC b20, iC b21, iC b22, iC b23])) [] 0 [some [D.lit (.bool true)]] none, .no] [1, 2, 4] [0, 1] (P := (_)) (l' := [(1, iV v), (2, rV 0 0), (4, rV 1 0)]) (g' := [(0, some (28, .ds [iD li, D.lit (.slice none 0 0), iD 0, iD 0, iD 0, iD 0, iD 0, iD 0, iD b0, iD b1, iD b2, iD b3, iD b4, iD b5, iD b6, iD b7, iD b8, iD b9, iD b10, iD b11, iD b12, iD b13, iD b14, iD b15, iD b16, iD b17, iD b18, iD b19, iD b20, iD b21, iD b22, iD b23])), (1, some (28, .ds [iD 0, D.lit (.slice none 0 0), iD 0, iD 0, iD 0, iD 0, iD 0, iD 0, iD 0, iD 0, iD 0, iD 0, iD 0, iD 0, iD 0, iD 0, iD 0, iD 0, iD 0, iD 0, iD 0, iD 0, iD 0, iD 0, iD 0, iD 0, iD 0, iD 0, iD 0, iD 0, iD 0, iD 0]))]) (nx' := 2) (by kernel_rfl) (R_fr li b0 b1 b2 b3 b4 b5 b6 b7 b8 b9 b10 b11 b12 b13 b14 b15 b16 b17 b18 b19 b20 b21 b22 b23) ?_
  have hx1 : ((lnB v) ≤ 22) := (ln_22 ((by omega)))
  refine AW.rgs [.no, .w, .call [] (iV (((lnB v) : Nat) : Int)) [] 0 [] none, .no, .no] [2, 4, 6] [0, 1] (P := (0 ≤ v ∧ v ≤ 18446744073709551615) ∧ (_)) (l' := [(2, rV 0 0), (4, rV 1 0), (6, iV (min (((lnB v) : Nat) : Int) 23))]) (g' := [(0, some (28, .ds [iD li, D.lit (.slice none 0 0), iD 0, iD 0, iD 0, iD 0, iD 0, iD 0, iD b0, iD b1, iD b2, iD b3, iD b4, iD b5, iD b6, iD b7, iD b8, iD b9, iD b10, iD b11, iD b12, iD b13, iD b14, iD b15, iD b16, iD b17, iD b18, iD b19, iD b20, iD b21, iD b22, iD b23])), (1, some (28, .ds [iD 0, D.lit (.slice none 0 0), iD 0, iD 0, iD 0, iD 0, iD 0, iD 0, iD 0, iD 0, iD 0, iD 0, iD 0, iD 0, iD 0, iD 0, iD 0, iD 0, iD 0, iD 0, iD 0, iD 0, iD 0, iD 0, iD 0, iD 0, iD 0, iD 0, iD 0, iD 0, iD 0, iD 0]))]) (nx' := 2) (by kernel_rfl) ⟨⟨by omega, by omega⟩, (R_Len v (by omega))⟩ ?_
  refine AW.rgs [.no, .no, .no, .n2 18 26, .no, .call [] (iV (b18 + 1)) [] 0 [] none, .no, .n2 18 26, .no] [2, 4] [0, 1] (P := (((min (((lnB v) : Nat) : Int) 23) : Int) = 18) ∧ ((18 : Nat) < 24) ∧ ((8 : Nat) + 18 * 1 = 26) ∧ (_) ∧ (((min (((lnB v) : Nat) : Int) 23) : Int) = 18) ∧ ((18 : Nat) < 24) ∧ ((8 : Nat) + 18 * 1 = 26)) (l' := [(2, rV 0 0), (4, rV 1 0)]) (g' := [(0, some (28, .ds [iD li, D.lit (.slice none 0 0), iD 0, iD 0, iD 0, iD 0, iD 0, iD 0, iD b0, iD b1, iD b2, iD b3, iD b4, iD b5, iD b6, iD b7, iD b8, iD b9, iD b10, iD b11, iD b12, iD b13, iD b14, iD b15, iD b16, iD b17, iD (b18 + 1), iD b19, iD b20, iD b21, iD b22, iD b23])), (1, some (28, .ds [iD 0, D.lit (.slice none 0 0), iD 0, iD 0, iD 0, iD 0, iD 0, iD 0, iD 0, iD 0, iD 0, iD 0, iD 0, iD 0, iD 0, iD 0, iD 0, iD 0, iD 0, iD 0, iD 0, iD 0, iD 0, iD 0, iD 0, iD 0, iD 0, iD 0, iD 0, iD 0, iD 0, iD 0]))]) (nx' := 2) (by kernel_rfl) ⟨(by first | rfl | omega), (by omega), (by omega), (R_ctd b18 (by omega)), (by first | rfl | omega), (by omega), (by omega)⟩ ?_
  refine AW.rgs [.no, .no, .no] [4, 5] [1] (P := True) (l' := [(4, rV 1 0), (5, iV 0)]) (g' := [(1, some (28, .ds [iD li, D.lit (.slice none 0 0), iD 0, iD 0, iD 0, iD 0, iD 0, iD 0, iD b0, iD b1, iD b2, iD b3, iD b4, iD b5, iD b6, iD b7, iD b8, iD b9, iD b10, iD b11, iD b12, iD b13, iD b14, iD b15, iD b16, iD b17, iD (b18 + 1), iD b19, iD b20, iD b21, iD b22, iD b23]))]) (nx' := 2) (by kernel_rfl) trivial ?_
  refine AW.ret ?_
  exact EndP.of (.inr rfl) [] (P := ((li : Int) = li) ∧ ((.slice none 0 0 : Value) = .slice none 0 0) ∧ ((0 : Int) = 0) ∧ ((0 : Int) = 0) ∧ ((0 : Int) = 0) ∧ ((0 : Int) = 0) ∧ ((0 : Int) = 0) ∧ ((0 : Int) = 0) ∧ ((b0 : Int) = b0) ∧ ((b1 : Int) = b1) ∧ ((b2 : Int) = b2) ∧ ((b3 : Int) = b3) ∧ ((b4 : Int) = b4) ∧ ((b5 : Int) = b5) ∧ ((b6 : Int) = b6) ∧ ((b7 : Int) = b7) ∧ ((b8 : Int) = b8) ∧ ((b9 : Int) = b9) ∧ ((b10 : Int) = b10) ∧ ((b11 : Int) = b11) ∧ ((b12 : Int) = b12) ∧ ((b13 : Int) = b13) ∧ ((b14 : Int) = b14) ∧ ((b15 : Int) = b15) ∧ ((b16 : Int) = b16) ∧ ((b17 : Int) = b17) ∧ (((b18 + 1) : Int) = (b18 + 1)) ∧ ((b19 : Int) = b19) ∧ ((b20 : Int) = b20) ∧ ((b21 : Int) = b21) ∧ ((b22 : Int) = b22) ∧ ((b23 : Int) = b23) ∧ ((0 : Int) = 0)) (by kernel_rfl) ⟨rfl, rfl, rfl, rfl, rfl, rfl, rfl, rfl, rfl, rfl, rfl, rfl, rfl, rfl, rfl, rfl, rfl, rfl, rfl, rfl, rfl, rfl, rfl, rfl, rfl, rfl, rfl, rfl, rfl, rfl, rfl, rfl, rfl⟩

set_option maxHeartbeats 4000000 in
set_option maxRecDepth 100000 in
theorem R_ms19 (li b0 b1 b2 b3 b4 b5 b6 b7 b8 b9 b10 b11 b12 b13 b14 b15 b16 b17 b18 b19 b20 b21 b22 b23 v : Int) (hli : 1 ≤ li ∧ li ≤ 256) (hB : bkOk [b0, b1, b2, b3, b4, b5, b6, b7, b8, b9, b10, b11, b12, b13, b14, b15, b16, b17, b18, b19, b20, b21, b22, b23]) (hv : 0 ≤ v ∧ v < 4194304) (hk : lnB v = 19) : Fun 6 [.agg [iC li, .d (D.lit (.slice none 0 0)), iC 0, iC 0, iC 0, iC 0, iC 0, iC 0, iC b0, iC b1, iC b2, iC b3, iC b4, iC b5, iC b6, iC b7, iC b8, iC b9, iC b10, iC b11, iC b12, iC b13, iC b14, iC b15, iC b16, iC b17, iC b18, iC b19, iC b20, iC b21, iC b22, iC b23], iE v] (toG []) 0 (.tup [.agg [iC li, .d (D.lit (.slice none 0 0)), iC 0, iC 0, iC 0, iC 0, iC 0, iC 0, iC b0, iC b1, iC b2, iC b3, iC b4, iC b5, iC b6, iC b7, iC b8, iC b9, iC b10, iC b11, iC b12, iC b13, iC b14, iC b15, iC b16, iC b17, iC b18, iC (b19 + 1), iC b20, iC b21, iC b22, iC b23], iE 0]) (toG []) 0 := by
  have hb0 : 0 ≤ b0 ∧ b0 ≤ 1000 := hB 0 (by omega)
  have hb1 : 0 ≤ b1 ∧ b1 ≤ 1000 := hB 1 (by omega)
  have hb2 : 0 ≤ b2 ∧ b2 ≤ 1000 := hB 2 (by omega)
  have hb3 : 0 ≤ b3 ∧ b3 ≤ 1000 := hB 3 (by omega)
  have hb4 : 0 ≤ b4 ∧ b4 ≤ 1000 := hB 4 (by omega)
  have hb5 : 0 ≤ b5 ∧ b5 ≤ 1000 := hB 5 (by omega)
  have hb6 : 0 ≤ b6 ∧ b6 ≤ 1000 := hB 6 (by omega)
  have hb7 : 0 ≤ b7 ∧ b7 ≤ 1000 := hB 7 (by omega)
  have hb8 : 0 ≤ b8 ∧ b8 ≤ 1000 := hB 8 (by omega)
  have hb9 : 0 ≤ b9 ∧ b9 ≤ 1000 := hB 9 (by omega)
  have hb10 : 0 ≤ b10 ∧ b10 ≤ 1000 := hB 10 (by omega)
  have hb11 : 0 ≤ b11 ∧ b11 ≤ 1000 := hB 11 (by omega)
  have hb12 : 0 ≤ b12 ∧ b12 ≤ 1000 := hB 12 (by omega)
  have hb13 : 0 ≤ b13 ∧ b13 ≤ 1000 := hB 13 (by omega)
  have hb14 : 0 ≤ b14 ∧ b14 ≤ 1000 := hB 14 (by omega)
  have hb15 : 0 ≤ b15 ∧ b15 ≤ 1000 := hB 15 (by omega)
  have hb16 : 0 ≤ b16 ∧ b16 ≤ 1000 := hB 16 (by omega)
  have hb17 : 0 ≤ b17 ∧ b17 ≤ 1000 := hB 17 (by omega)
  have hb18 : 0 ≤ b18 ∧ b18 ≤ 1000 := hB 18 (by omega)
  have hb19 : 0 ≤ b19 ∧ b19 ≤ 1000 := hB 19 (by omega)
  have hb20 : 0 ≤ b20 ∧ b20 ≤ 1000 := hB 20 (by omega)
  have hb21 : 0 ≤ b21 ∧ b21 ≤ 1000 := hB 21 (by omega)
  have hb22 : 0 ≤ b22 ∧ b22 ≤ 1000 := hB 22 (by omega)
  have hb23 : 0 ≤ b23 ∧ b23 ≤ 1000 := hB 23 (by omega)
  refine Fun.mk (n := 29) Try.func6 rfl rfl (Nat.le_of_ble_eq_true rfl) ?_
  intro cx hcx
  refine AW.rgs [.no, .no, .no] [1, 2, 4] [0, 1] (P := True) (l' := [(1, iV v), (2, rV 0 0), (4, rV 1 0)]) (g' := [(0, some (28, .ds [iD li, D.lit (.slice none 0 0), iD 0, iD 0, iD 0, iD 0, iD 0, iD 0, iD b0, iD b1, iD b2, iD b3, iD b4, iD b5, iD b6, iD b7, iD b8, iD b9, iD b10, iD b11, iD b12, iD b13, iD b14, iD b15, iD b16, iD b17, iD b18, iD b19, iD b20, iD b21, iD b22, iD b23])), (1, some (28, .ds [iD 0, D.lit (.slice none 0 0), iD 0, iD 0, iD 0, iD 0, iD 0, iD 0, iD 0, iD 0, iD 0, iD 0, iD 0, iD 0, iD 0, iD 0, iD 0, iD 0, iD 0, iD 0, iD 0, iD 0, iD 0, iD 0, iD 0, iD 0, iD 0, iD 0, iD 0, iD 0, iD 0, iD 0]))]) (nx' := 2) (by kernel_rfl) trivial ?_
  refine AW.seq ?_
  refine AW.rgs [.no, .call [] (bV true) [] 0 [some [D.lit (.bool true)]] none, .no] [1, 2, 4, 9] [0, 1] (P := (_)) (l' := [(1, iV v), (2, rV 0 0), (4, rV 1 0), (9, bV false)]) (g' := [(0, some (28, .ds [iD li, D.lit (.slice none 0 0), iD 0, iD 0, iD 0, iD 0, iD 0, iD 0, iD b0, iD b1, iD b2, iD b3, iD b4, iD b5, iD b6, iD b7, iD b8, iD b9, iD b10, iD b11, iD b12, iD b13, iD b14, iD b15, iD b16, iD b17, iD b18, iD b19, iD b20, iD b21, iD b22, iD b23])), (1, some (28, .ds [iD 0, D.lit (.slice none 0 0), iD 0, iD 0, iD 0, iD 0, iD 0, iD 0, iD 0, iD 0, iD 0, iD 0, iD 0, iD 0, iD 0, iD 0, iD 0, iD 0, iD 0, iD 0, iD 0, iD 0, iD 0, iD 0, iD 0, iD 0, iD 0, iD 0, iD 0, iD 0, iD 0, iD 0]))]) (nx' := 2) (by kernel_rfl) (R_val li b0 b1 b2 b3 b4 b5 b6 b7 b8 b9 b10 b11 b12 b13 b14 b15 b16 b17 b18 b19 b20 b21 b22 b23 (by omega) (by first | omega | with_reducible assumption | (simp <;> omega) | rfl | assumption)) ?_
  refine AW.cond_f (.tmp (Look.of rfl)) ?_
  refine AW.skip ?_
  refine AW.seq ?_
  refine AW.rgs [.no, .b false] [1, 2, 4, 12] [0, 1] (P := (¬ (v < 0))) (l' := [(1, iV v), (2, rV 0 0), (4, rV 1 0), (12, bV false)]) (g' := [(0, some (28, .ds [iD li, D.lit (.slice none 0 0), iD 0, iD 0, iD 0, iD 0, iD 0, iD 0, iD b0, iD b1, iD b2, iD b3, iD b4, iD b5, iD b6, iD b7, iD b8, iD b9, iD b10, iD b11, iD b12, iD b13, iD b14, iD b15, iD b16, iD b17, iD b18, iD b19, iD b20, iD b21, iD b22, iD b23])), (1, some (28, .ds [iD 0, D.lit (.slice none 0 0), iD 0, iD 0, iD 0, iD 0, iD 0, iD 0, iD 0, iD 0, iD 0, iD 0, iD 0, iD 0, iD 0, iD 0, iD 0, iD 0, iD 0, iD 0, iD 0, iD 0, iD 0, iD 0, iD 0, iD 0, iD 0, iD 0, iD 0, iD 0, iD 0, iD 0]))]) (nx' := 2) (by kernel_rfl) (by omega) ?_
  refine AW.cond_f (.tmp (Look.of rfl)) ?_
  refine AW.skip ?_
  refine AW.rgs [.no, .call [] (.e (.agg [iC li, .d (D.lit (.slice none 0 0)), iC 0, iC 0, iC 0, iC 0, iC 0, iC 0, iC b0, iC b1, iC b2, iC b3, iC b4, iC b5, iC b6, iC b7, iC b8, iC b9, iC b10, iC b11, iC b12, iC b13, iC b14, iC b15, iC b16, iC b17, iC b18, iC b19, iC b20, iC b21, iC b22, iC b23])) [] 0 [some [D.lit (.bool true)]] none, .no] [1, 2, 4] [0, 1] (P := (_)) (l' := [(1, iV v), (2, rV 0 0), (4, rV 1 0)]) (g' := [(0, some (28, .ds [iD li, D.lit (.slice none 0 0), iD 0, iD 0, iD 0, iD 0, iD 0, iD 0, iD b0, iD b1, iD b2, iD b3, iD b4, iD b5, iD b6, iD b7, iD b8, iD b9, iD b10, iD b11, iD b12, iD b13, iD b14, iD b15, iD b16, iD b17, iD b18, iD b19, iD b20, iD b21, iD b22, iD b23])), (1, some (28, .ds [iD 0, D.lit (.slice none 0 0), iD 0, iD 0, iD 0, iD 0, iD 0, iD 0, iD 0, iD 0, iD 0, iD 0, iD 0, iD 0, iD 0, iD 0, iD 0, iD 0, iD 0, iD 0, iD 0, iD 0, iD 0, iD 0, iD 0, iD 0, iD 0, iD 0, iD 0, iD 0, iD 0, iD 0]))]) (nx' := 2) (by kernel_rfl) (R_fr li b0 b1 b2 b3 b4 b5 b6 b7 b8 b9 b10 b11 b12 b13 b14 b15 b16 b17 b18 b19 b20 b21 b22 b23) ?_
  have hx1 : ((lnB v) ≤ 22) := (ln_22 ((by omega)))
  refine AW.rgs [.no, .w, .call [] (iV (((lnB v) : Nat) : Int)) [] 0 [] none, .no, .no] [2, 4, 6] [0, 1] (P := (0 ≤ v ∧ v ≤ 18446744073709551615) ∧ (_)) (l' := [(2, rV 0 0), (4, rV 1 0), (6, iV (min (((lnB v) : Nat) : Int) 23))]) (g' := [(0, some (28, .ds [iD li, D.lit (.slice none 0 0), iD 0, iD 0, iD 0, iD 0, iD 0, iD 0, iD b0, iD b1, iD b2, iD b3, iD b4, iD b5, iD b6, iD b7, iD b8, iD b9, iD b10, iD b11, iD b12, iD b13, iD b14, iD b15, iD b16, iD b17, iD b18, iD b19, iD b20, iD b21, iD b22, iD b23])), (1, some (28, .ds [iD 0, D.lit (.slice none 0 0), iD 0, iD 0, iD 0, iD 0, iD 0, iD 0, iD 0, iD 0, iD 0, iD 0, iD 0, iD 0, iD 0, iD 0, iD 0, iD 0, iD 0, iD 0, iD 0, iD 0, iD 0, iD 0, iD 0, iD 0, iD 0, iD 0, iD 0, iD 0, iD 0, iD 0]))]) (nx' := 2) (by kernel_rfl) ⟨⟨by omega, by omega⟩, (R_Len v (by omega))⟩ ?_
  refine AW.rgs [.no, .no, .no, .n2 19 27, .no, .call [] (iV (b19 + 1)) [] 0 [] none, .no, .n2 19 27, .no] [2, 4] [0, 1] (P := (((min (((lnB v) : Nat) : Int) 23) : Int) = 19) ∧ ((19 : Nat) < 24) ∧ ((8 : Nat) + 19 * 1 = 27) ∧ (_) ∧ (((min (((lnB v) : Nat) : Int) 23) : Int) = 19) ∧ ((19 : Nat) < 24) ∧ ((8 : Nat) + 19 * 1 = 27)) (l' := [(2, rV 0 0), (4, rV 1 0)]) (g' := [(0, some (28, .ds [iD li, D.lit (.slice none 0 0), iD 0, iD 0, iD 0, iD 0, iD 0, iD 0, iD b0, iD b1, iD b2, iD b3, iD b4, iD b5, iD b6, iD b7, iD b8, iD b9, iD b10, iD b11, iD b12, iD b13, iD b14, iD b15, iD b16, iD b17, iD b18, iD (b19 + 1), iD b20, iD b21, iD b22, iD b23])), (1, some (28, .ds [iD 0, D.lit (.slice none 0 0), iD 0, iD 0, iD 0, iD 0, iD 0, iD 0, iD 0, iD 0, iD 0, iD 0, iD 0, iD 0, iD 0, iD 0, iD 0, iD 0, iD 0, iD 0, iD 0, iD 0, iD 0, iD 0, iD 0, iD 0, iD 0, iD 0, iD 0, iD 0, iD 0, iD 0]))]) (nx' := 2) (by kernel_rfl) ⟨(by first | rfl | omega), (by omega), (by omega), (R_ctd b19 (by omega)), (by first | rfl | omega), (by omega), (by omega)⟩ ?_
  refine AW.rgs [.no, .no, .no] [4, 5] [1] (P := True) (l' := [(4, rV 1 0), (5, iV 0)]) (g' := [(1, some (28, .ds [iD li, D.lit (.slice none 0 0), iD 0, iD 0, iD 0, iD 0, iD 0, iD 0, iD b0, iD b1, iD b2, iD b3, iD b4, iD b5, iD b6, iD b7, iD b8, iD b9, iD b10, iD b11, iD b12, iD b13, iD b14, iD b15, iD b16, iD b17, iD b18, iD (b19 + 1), iD b20, iD b21, iD b22, iD b23]))]) (nx' := 2) (by kernel_rfl) trivial ?_
  refine AW.ret ?_
  exact EndP.of (.inr rfl) [] (P := ((li : Int) = li) ∧ ((.slice none 0 0 : Value) = .slice none 0 0) ∧ ((0 : Int) = 0) ∧ ((0 : Int) = 0) ∧ ((0 : Int) = 0) ∧ ((0 : Int) = 0) ∧ ((0 : Int) = 0) ∧ ((0 : Int) = 0) ∧ ((b0 : Int) = b0) ∧ ((b1 : Int) = b1) ∧ ((b2 : Int) = b2) ∧ ((b3 : Int) = b3) ∧ ((b4 : Int) = b4) ∧ ((b5 : Int) = b5) ∧ ((b6 : Int) = b6) ∧ ((b7 : Int) = b7) ∧ ((b8 : Int) = b8) ∧ ((b9 : Int) = b9) ∧ ((b10 : Int) = b10) ∧ ((b11 : Int) = b11) ∧ ((b12 : Int) = b12) ∧ ((b13 : Int) = b13) ∧ ((b14 : Int) = b14) ∧ ((b15 : Int) = b15) ∧ ((b16 : Int) = b16) ∧ ((b17 : Int) = b17) ∧ ((b18 : Int) = b18) ∧ (((b19 + 1) : Int) = (b19 + 1)) ∧ ((b20 : Int) = b20) ∧ ((b21 : Int) = b21) ∧ ((b22 : Int) = b22) ∧ ((b23 : Int) = b23) ∧ ((0 : Int) = 0)) (by kernel_rfl) ⟨rfl, rfl, rfl, rfl, rfl, rfl, rfl, rfl, rfl, rfl, rfl, rfl, rfl, rfl, rfl, rfl, rfl, rfl, rfl, rfl, rfl, rfl, rfl, rfl, rfl, rfl, rfl, rfl, rfl, rfl, rfl, rfl, rfl⟩

set_option maxHeartbeats 4000000 in
set_option maxRecDepth 100000 in
theorem R_ms20 (li b0 b1 b2 b3 b4 b5 b6 b7 b8 b9 b10 b11 b12 b13 b14 b15 b16 b17 b18 b19 b20 b21 b22 b23 v : Int) (hli : 1 ≤ li ∧ li ≤ 256) (hB : bkOk [b0, b1, b2, b3, b4, b5, b6, b7, b8, b9, b10, b11, b12, b13, b14, b15, b16, b17, b18, b19, b20, b21, b22, b23]) (hv : 0 ≤ v ∧ v < 4194304) (hk : lnB v = 20) : Fun 6 [.agg [iC li, .d (D.lit (.slice none 0 0)), iC 0, iC 0, iC 0, iC 0, iC 0, iC 0, iC b0, iC b1, iC b2, iC b3, iC b4, iC b5, iC b6, iC b7, iC b8, iC b9, iC b10, iC b11, iC b12, iC b13, iC b14, iC b15, iC b16, iC b17, iC b18, iC b19, iC b20, iC b21, iC b22, iC b23], iE v] (toG []) 0 (.tup [.agg [iC li, .d (D.lit (.slice none 0 0)), iC 0, iC 0, iC 0, iC 0, iC 0, iC 0, iC b0, iC b1, iC b2, iC b3, iC b4, iC b5, iC b6, iC b7, iC b8, iC b9, iC b10, iC b11, iC b12, iC b13, iC b14, iC b15, iC b16, iC b17, iC b18, iC b19, iC (b20 + 1), iC b21, iC b22, iC b23], iE 0]) (toG []) 0 := by
  have hb0 : 0 ≤ b0 ∧ b0 ≤ 1000 := hB 0 (by omega)
  have hb1 : 0 ≤ b1 ∧ b1 ≤ 1000 := hB 1 (by omega)
  have hb2 : 0 ≤ b2 ∧ b2 ≤ 1000 := hB 2 (by omega)
  have hb3 : 0 ≤ b3 ∧ b3 ≤ 1000 := hB 3 (by omega)
  have hb4 : 0 ≤ b4 ∧ b4 ≤ 1000 := hB 4 (by omega)
  have hb5 : 0 ≤ b5 ∧ b5 ≤ 1000 := hB 5 (by omega)
  have hb6 : 0 ≤ b6 ∧ b6 ≤ 1000 := hB 6 (by omega)
  have hb7 : 0 ≤ b7 ∧ b7 ≤ 1000 := hB 7 (by omega)
  have hb8 : 0 ≤ b8 ∧ b8 ≤ 1000 := hB 8 (by omega)
  have hb9 : 0 ≤ b9 ∧ b9 ≤ 1000 := hB 9 (by omega)
  have hb10 : 0 ≤ b10 ∧ b10 ≤ 1000 := hB 10 (by omega)
  have hb11 : 0 ≤ b11 ∧ b11 ≤ 1000 := hB 11 (by omega)
  have hb12 : 0 ≤ b12 ∧ b12 ≤ 1000 := hB 12 (by omega)
  have hb13 : 0 ≤ b13 ∧ b13 ≤ 1000 := hB 13 (by omega)
  have hb14 : 0 ≤ b14 ∧ b14 ≤ 1000 := hB 14 (by omega)
  have hb15 : 0 ≤ b15 ∧ b15 ≤ 1000 := hB 15 (by omega)
  have hb16 : 0 ≤ b16 ∧ b16 ≤ 1000 := hB 16 (by omega)
  have hb17 : 0 ≤ b17 ∧ b17 ≤ 1000 := hB 17 (by omega)
  have hb18 : 0 ≤ b18 ∧ b18 ≤ 1000 := hB 18 (by omega)
  have hb19 : 0 ≤ b19 ∧ b19 ≤ 1000 := hB 19 (by omega)
  have hb20 : 0 ≤ b20 ∧ b20 ≤ 1000 := hB 20 (by omega)
  have hb21 : 0 ≤ b21 ∧ b21 ≤ 1000 := hB 21 (by omega)
  have hb22 : 0 ≤ b22 ∧ b22 ≤ 1000 := hB 22 (by omega)
  have hb23 : 0 ≤ b23 ∧ b23 ≤ 1000 := hB 23 (by omega)
  refine Fun.mk (n := 29) Try.func6 rfl rfl (Nat.le_of_ble_eq_true rfl) ?_
  intro cx hcx
  refine AW.rgs [.no, .no, .no] [1, 2, 4] [0, 1] (P := True) (l' := [(1, iV v), (2, rV 0 0), (4, rV 1 0)]) (g' := [(0, some (28, .ds [iD li, D.lit (.slice none 0 0), iD 0, iD 0, iD 0, iD 0, iD 0, iD 0, iD b0, iD b1, iD b2, iD b3, iD b4, iD b5, iD b6, iD b7, iD b8, iD b9, iD b10, iD b11, iD b12, iD b13, iD b14, iD b15, iD b16, iD b17, iD b18, iD b19, iD b20, iD b21, iD b22, iD b23])), (1, some (28, .ds [iD 0, D.lit (.slice none 0 0), iD 0, iD 0, iD 0, iD 0, iD 0, iD 0, iD 0, iD 0, iD 0, iD 0, iD 0, iD 0, iD 0, iD 0, iD 0, iD 0, iD 0, iD 0, iD 0, iD 0, iD 0, iD 0, iD 0, iD 0, iD 0, iD 0, iD 0, iD 0, iD 0, iD 0]))]) (nx' := 2) (by kernel_rfl) trivial ?_
  refine AW.seq ?_
  refine AW.rgs [.no, .call [] (bV true) [] 0 [some [D.lit (.bool true)]] none, .no] [1, 2, 4, 9] [0, 1] (P := (_)) (l' := [(1, iV v), (2, rV 0 0), (4, rV 1 0), (9, bV false)]) (g' := [(0, some (28, .ds [iD li, D.lit (.slice none 0 0), iD 0, iD 0, iD 0, iD 0, iD 0, iD 0, iD b0, iD b1, iD b2, iD b3, iD b4, iD b5, iD b6, iD b7, iD b8, iD b9, iD b10, iD b11, iD b12, iD b13, iD b14, iD b15, iD b16, iD b17, iD b18, iD b19, iD b20, iD b21, iD b22, iD b23])), (1, some (28, .ds [iD 0, D.lit (.slice none 0 0), iD 0, iD 0, iD 0, iD 0, iD 0, iD 0, iD 0, iD 0, iD 0, iD 0, iD 0, iD 0, iD 0, iD 0, iD 0, iD 0, iD 0, iD 0, iD 0, iD 0, iD 0, iD 0, iD 0, iD 0, iD 0, iD 0, iD 0, iD 0, iD 0, iD 0]))]) (nx' := 2) (by kernel_rfl) (R_val li b0 b1 b2 b3 b4 b5 b6 b7 b8 b9 b10 b11 b12 b13 b14 b15 b16 b17 b18 b19 b20 b21 b22 b23 (by omega) (by first | omega | with_reducible assumption | (simp <;> omega) | rfl | assumption)) ?_
  refine AW.cond_f (.tmp (Look.of rfl)) ?_
  refine AW.skip ?_
  refine AW.seq ?_
  refine AW.rgs [.no, .b false] [1, 2, 4, 12] [0, 1] (P := (¬ (v < 0))) (l' := [(1, iV v), (2, rV 0 0), (4, rV 1 0), (12, bV false)]) (g' := [(0, some (28, .ds [iD li, D.lit (.slice none 0 0), iD 0, iD 0, iD 0, iD 0, iD 0, iD 0, iD b0, iD b1, iD b2, iD b3, iD b4, iD b5, iD b6, iD b7, iD b8, iD b9, iD b10, iD b11, iD b12, iD b13, iD b14, iD b15, iD b16, iD b17, iD b18, iD b19, iD b20, iD b21, iD b22, iD b23])), (1, some (28, .ds [iD 0, D.lit (.slice none 0 0), iD 0, iD 0, iD 0, iD 0, iD 0, iD 0, iD 0, iD 0, iD 0, iD 0, iD 0, iD 0, iD 0, iD 0, iD 0, iD 0, iD 0, iD 0, iD 0, iD 0, iD 0, iD 0, iD 0, iD 0, iD 0, iD 0, iD 0, iD 0, iD 0, iD 0]))]) (nx' := 2) (by kernel_rfl) (by omega) ?_
  refine AW.cond_f (.tmp (Look.of rfl)) ?_
  refine AW.skip ?_
  refine AW.rgs [.no, .call [] (.e (.agg [iC li, .d (D.lit (.slice none 0 0)), iC 0, iC 0, iC 0, iC 0, iC 0, iC 0, iC b0, iC b1, iC b2, iC b3, iC b4, iC b5, iC b6, iC b7, iC b8, iC b9, iC b10, iC b11, iC b12, iC b13, iC b14, iC b15, iC b16, iC b17, iC b18, iC b19, iC b20, iC b21, iC b22, iC b23])) [] 0 [some [D.lit (.bool true)]] none, .no] [1, 2, 4] [0, 1] (P := (_)) (l' := [(1, iV v), (2, rV 0 0), (4, rV 1 0)]) (g' := [(0, some (28, .ds [iD li, D.lit (.slice none 0 0), iD 0, iD 0, iD 0, iD 0, iD 0, iD 0, iD b0, iD b1, iD b2, iD b3, iD b4, iD b5, iD b6, iD b7, iD b8, iD b9, iD b10, iD b11, iD b12, iD b13, iD b14, iD b15, iD b16, iD b17, iD b18, iD b19, iD b20, iD b21, iD b22, iD b23])), (1, some (28, .ds [iD 0, D.lit (.slice none 0 0), iD 0, iD 0, iD 0, iD 0, iD 0, iD 0, iD 0, iD 0, iD 0, iD 0, iD 0, iD 0, iD 0, iD 0, iD 0, iD 0, iD 0, iD 0, iD 0, iD 0, iD 0, iD 0, iD 0, iD 0, iD 0, iD 0, iD 0, iD 0, iD 0, iD 0]))]) (nx' := 2) (by kernel_rfl) (R_fr li b0 b1 b2 b3 b4 b5 b6 b7 b8 b9 b10 b11 b12 b13 b14 b15 b16 b17 b18 b19 b20 b21 b22 b23) ?_
  have hx1 : ((lnB v) ≤ 22) := (ln_22 ((by omega)))
  refine AW.rgs [.no, .w, .call [] (iV (((lnB v) : Nat) : Int)) [] 0 [] none, .no, .no] [2, 4, 6] [0, 1] (P := (0 ≤ v ∧ v ≤ 18446744073709551615) ∧ (_)) (l' := [(2, rV 0 0), (4, rV 1 0), (6, iV (min (((lnB v) : Nat) : Int) 23))]) (g' := [(0, some (28, .ds [iD li, D.lit (.slice none 0 0), iD 0, iD 0, iD 0, iD 0, iD 0, iD 0, iD b0, iD b1, iD b2, iD b3, iD b4, iD b5, iD b6, iD b7, iD b8, iD b9, iD b10, iD b11, iD b12, iD b13, iD b14, iD b15, iD b16, iD b17, iD b18, iD b19, iD b20, iD b21, iD b22, iD b23])), (1, some (28, .ds [iD 0, D.lit (.slice none 0 0), iD 0, iD 0, iD 0, iD 0, iD 0, iD 0, iD 0, iD 0, iD 0, iD 0, iD 0, iD 0, iD 0, iD 0, iD 0, iD 0, iD 0, iD 0, iD 0, iD 0, iD 0, iD 0, iD 0, iD 0, iD 0, iD 0, iD 0, iD 0, iD 0, iD 0]))]) (nx' := 2) (by kernel_rfl) ⟨⟨by omega, by omega⟩, (R_Len v (by omega))⟩ ?_
  refine AW.rgs [.no, .no, .no, .n2 20 28, .no, .call [] (iV (b20 + 1)) [] 0 [] none, .no, .n2 20 28, .no] [2, 4] [0, 1] (P := (((min (((lnB v) : Nat) : Int) 23) : Int) = 20) ∧ ((20 : Nat) < 24) ∧ ((8 : Nat) + 20 * 1 = 28) ∧ (_) ∧ (((min (((lnB v) : Nat) : Int) 23) : Int) = 20) ∧ ((20 : Nat) < 24) ∧ ((8 : Nat) + 20 * 1 = 28)) (l' := [(2, rV 0 0), (4, rV 1 0)]) (g' := [(0, some (28, .ds [iD li, D.lit (.slice none 0 0), iD 0, iD 0, iD 0, iD 0, iD 0, iD 0, iD b0, iD b1, iD b2, iD b3, iD b4, iD b5, iD b6, iD b7, iD b8, iD b9, iD b10, iD b11, iD b12, iD b13, iD b14, iD b15, iD b16, iD b17, iD b18, iD b19, iD (b20 + 1), iD b21, iD b22, iD b23])), (1, some (28, .ds [iD 0, D.lit (.slice none 0 0), iD 0, iD 0, iD 0, iD 0, iD 0, iD 0, iD 0, iD 0, iD 0, iD 0, iD 0, iD 0, iD 0, iD 0, iD 0, iD 0, iD 0, iD 0, iD 0, iD 0, iD 0, iD 0, iD 0, iD 0, iD 0, iD 0, iD 0, iD 0, iD 0, iD 0]))]) (nx' := 2) (by kernel_rfl) ⟨(by first | rfl | omega), (by omega), (by omega), (R_ctd b20 (by omega)), (by first | rfl | omega), (by omega), (by omega)⟩ ?_
  refine AW.rgs [.no, .no, .no] [4, 5] [1] (P := True) (l' := [(4, rV 1 0), (5, iV 0)]) (g' := [(1, some (28, .ds [iD li, D.lit (.slice none 0 0), iD 0, iD 0, iD 0, iD 0, iD 0, iD 0, iD b0, iD b1, iD b2, iD b3, iD b4, iD b5, iD b6, iD b7, iD b8, iD b9, iD b10, iD b11, iD b12, iD b13, iD b14, iD b15, iD b16, iD b17, iD b18, iD b19, iD (b20 + 1), iD b21, iD b22, iD b23]))]) (nx' := 2) (by kernel_rfl) trivial ?_
  refine AW.ret ?_
  exact EndP.of (.inr rfl) [] (P := ((li : Int) = li) ∧ ((.slice none 0 0 : Value) = .slice none 0 0) ∧ ((0 : Int) = 0) ∧ ((0 : Int) = 0) ∧ ((0 : Int) = 0) ∧ ((0 : Int) = 0) ∧ ((0 : Int) = 0) ∧ ((0 : Int) = 0) ∧ ((b0 : Int) = b0) ∧ ((b1 : Int) = b1) ∧ ((b2 : Int) = b2) ∧ ((b3 : Int) = b3) ∧ ((b4 : Int) = b4) ∧ ((b5 : Int) = b5) ∧ ((b6 : Int) = b6) ∧ ((b7 : Int) = b7) ∧ ((b8 : Int) = b8) ∧ ((b9 : Int) = b9) ∧ ((b10 : Int) = b10) ∧ ((b11 : Int) = b11) ∧ ((b12 : Int) = b12) ∧ ((b13 : Int) = b13) ∧ ((b14 : Int) = b14) ∧ ((b15 : Int) = b15) ∧ ((b16 : Int) = b16) ∧ ((b17 : Int) = b17) ∧ ((b18 : Int) = b18) ∧ ((b19 : Int) = b19) ∧ (((b20 + 1) : Int) = (b20 + 1)) ∧ ((b21 : Int) = b21) ∧ ((b22 : Int) = b22) ∧ ((b23 : Int) = b23) ∧ ((0 : Int) = 0)) (by kernel_rfl) ⟨rfl, rfl, rfl, rfl, rfl, rfl, rfl, rfl, rfl, rfl, rfl, rfl, rfl, rfl, rfl, rfl, rfl, rfl, rfl, rfl, rfl, rfl, rfl, rfl, rfl, rfl, rfl, rfl, rfl, rfl, rfl, rfl, rfl⟩

set_option maxHeartbeats 4000000 in
set_option maxRecDepth 100000 in
theorem R_ms21 (li b0 b1 b2 b3 b4 b5 b6 b7 b8 b9 b10 b11 b12 b13 b14 b15 b16 b17 b18 b19 b20 b21 b22 b23 v : Int) (hli : 1 ≤ li ∧ li ≤ 256) (hB : bkOk [b0, b1, b2, b3, b4, b5, b6, b7, b8, b9, b10, b11, b12, b13, b14, b15, b16, b17, b18, b19, b20, b21, b22, b23]) (hv : 0 ≤ v ∧ v < 4194304) (hk : lnB v = 21) : Fun 6 [.agg [iC li, .d (D.lit (.slice none 0 0)), iC 0, iC 0, iC 0, iC 0, iC 0, iC 0, iC b0, iC b1, iC b2, iC b3, iC b4, iC b5, iC b6, iC b7, iC b8, iC b9, iC b10, iC b11, iC b12, iC b13, iC b14, iC b15, iC b16, iC b17, iC b18, iC b19, iC b20, iC b21, iC b22, iC b23], iE v] (toG []) 0 (.tup [.agg [iC li, .d (D.lit (.slice none 0 0)), iC 0, iC 0, iC 0, iC 0, iC 0, iC 0, iC b0, iC b1, iC b2, iC b3, iC b4, iC b5, iC b6, iC b7, iC b8, iC b9, iC b10, iC b11, iC b12, iC b13, iC b14, iC b15, iC b16, iC b17, iC b18, iC b19, iC b20, iC (b21 + 1), iC b22, iC b23], iE 0]) (toG []) 0 := by
  have hb0 : 0 ≤ b0 ∧ b0 ≤ 1000 := hB 0 (by omega)
  have hb1 : 0 ≤ b1 ∧ b1 ≤ 1000 := hB 1 (by omega)
  have hb2 : 0 ≤ b2 ∧ b2 ≤ 1000 := hB 2 (by omega)
  have hb3 : 0 ≤ b3 ∧ b3 ≤ 1000 := hB 3 (by omega)
  have hb4 : 0 ≤ b4 ∧ b4 ≤ 1000 := hB 4 (by omega)
  have hb5 : 0 ≤ b5 ∧ b5 ≤ 1000 := hB 5 (by omega)
  have hb6 : 0 ≤ b6 ∧ b6 ≤ 1000 := hB 6 (by omega)
  have hb7 : 0 ≤ b7 ∧ b7 ≤ 1000 := hB 7 (by omega)
  have hb8 : 0 ≤ b8 ∧ b8 ≤ 1000 := hB 8 (by omega)
  have hb9 : 0 ≤ b9 ∧ b9 ≤ 1000 := hB 9 (by omega)
  have hb10 : 0 ≤ b10 ∧ b10 ≤ 1000 := hB 10 (by omega)
  have hb11 : 0 ≤ b11 ∧ b11 ≤ 1000 := hB 11 (by omega)
  have hb12 : 0 ≤ b12 ∧ b12 ≤ 1000 := hB 12 (by omega)
  have hb13 : 0 ≤ b13 ∧ b13 ≤ 1000 := hB 13 (by omega)
  have hb14 : 0 ≤ b14 ∧ b14 ≤ 1000 := hB 14 (by omega)
  have hb15 : 0 ≤ b15 ∧ b15 ≤ 1000 := hB 15 (by omega)
  have hb16 : 0 ≤ b16 ∧ b16 ≤ 1000 := hB 16 (by omega)
  have hb17 : 0 ≤ b17 ∧ b17 ≤ 1000 := hB 17 (by omega)
  have hb18 : 0 ≤ b18 ∧ b18 ≤ 1000 := hB 18 (by omega)
  have hb19 : 0 ≤ b19 ∧ b19 ≤ 1000 := hB 19 (by omega)
  have hb20 : 0 ≤ b20 ∧ b20 ≤ 1000 := hB 20 (by omega)
  have hb21 : 0 ≤ b21 ∧ b21 ≤ 1000 := hB 21 (by omega)
  have hb22 : 0 ≤ b22 ∧ b22 ≤ 1000 := hB 22 (by omega)
  have hb23 : 0 ≤ b23 ∧ b23 ≤ 1000 := hB 23 (by omega)
  refine Fun.mk (n := 29) Try.func6 rfl rfl (Nat.le_of_ble_eq_true rfl) ?_
  intro cx hcx
  refine AW.rgs [.no, .no, .no] [1, 2, 4] [0, 1] (P := True) (l' := [(1, iV v), (2, rV 0 0), (4, rV 1 0)]) (g' := [(0, some (28, .ds [iD li, D.lit (.slice none 0 0), iD 0, iD 0, iD 0, iD 0, iD 0, iD 0, iD b0, iD b1, iD b2, iD b3, iD b4, iD b5, iD b6, iD b7, iD b8, iD b9, iD b10, iD b11, iD b12, iD b13, iD b14, iD b15, iD b16, iD b17, iD b18, iD b19, iD b20, iD b21, iD b22, iD b23])), (1, some (28, .ds [iD 0, D.lit (.slice none 0 0), iD 0, iD 0, iD 0, iD 0, iD 0, iD 0, iD 0, iD 0, iD 0, iD 0, iD 0, iD 0, iD 0, iD 0, iD 0, iD 0, iD 0, iD 0, iD 0, iD 0, iD 0, iD 0, iD 0, iD 0, iD 0, iD 0, iD 0, iD 0, iD 0, iD 0]))]) (nx' := 2) (by kernel_rfl) trivial ?_
  refine AW.seq ?_
  refine AW.rgs [.no, .call [] (bV true) [] 0 [some [D.lit (.bool true)]] none, .no] [1, 2, 4, 9] [0, 1] (P := (_)) (l' := [(1, iV v), (2, rV 0 0), (4, rV 1 0), (9, bV false)]) (g' := [(0, some (28, .ds [iD li, D.lit (.slice none 0 0), iD 0, iD 0, iD 0, iD 0, iD 0, iD 0, iD b0, iD b1, iD b2, iD b3, iD b4, iD b5, iD b6, iD b7, iD b8, iD b9, iD b10, iD b11, iD b12, iD b13, iD b14, iD b15, iD b16, iD b17, iD b18, iD b19, iD b20, iD b21, iD b22, iD b23])), (1, some (28, .ds [iD 0, D.lit (.slice none 0 0), iD 0, iD 0, iD 0, iD 0, iD 0, iD 0, iD 0, iD 0, iD 0, iD 0, iD 0, iD 0, iD 0, iD 0, iD 0, iD 0, iD 0, iD 0, iD 0, iD 0, iD 0, iD 0, iD 0, iD 0, iD 0, iD 0, iD 0, iD 0, iD 0, iD 0]))]) (nx' := 2) (by kernel_rfl) (R_val li b0 b1 b2 b3 b4 b5 b6 b7 b8 b9 b10 b11 b12 b13 b14 b15 b16 b17 b18 b19 b20 b21 b22 b23 (by omega) (by first | omega | with_reducible assumption | (simp <;> omega) | rfl | assumption)) ?_
  refine AW.cond_f (.tmp (Look.of rfl)) ?_
  refine AW.skip ?_
  refine AW.seq ?_
  refine AW.rgs [.no, .b false] [1, 2, 4, 12] [0, 1] (P := (¬ (v < 0))) (l' := [(1, iV v), (2, rV 0 0), (4, rV 1 0), (12, bV false)]) (g' := [(0, some (28, .ds [iD li, D.lit (.slice none 0 0), iD 0, iD 0, iD 0, iD 0, iD 0, iD 0, iD b0, iD b1, iD b2, iD b3, iD b4, iD b5, iD b6, iD b7, iD b8, iD b9, iD b10, iD b11, iD b12, iD b13, iD b14, iD b15, iD b16, iD b17, iD b18, iD b19, iD b20, iD b21, iD b22, iD b23])), (1, some (28, .ds [iD 0, D.lit (.slice none 0 0), iD 0, iD 0, iD 0, iD 0, iD 0, iD 0, iD 0, iD 0, iD 0, iD 0, iD 0, iD 0, iD 0, iD 0, iD 0, iD 0, iD 0, iD 0, iD 0, iD 0, iD 0, iD 0, iD 0, iD 0, iD 0, iD 0, iD 0, iD 0, iD 0, iD 0]))]) (nx' := 2) (by kernel_rfl) (by omega) ?_
  refine AW.cond_f (.tmp (Look.of rfl)) ?_
  refine AW.skip ?_
  refine AW.rgs [.no, .call [] (.e (.agg [iC li, .d (D.lit (.slice none 0 0)), iC 0, iC 0, iC 0, iC 0, iC 0, iC 0, iC b0, iC b1, iC b2, iC b3, iC b4, iC b5, iC b6, iC b7, iC b8, iC b9, iC b10, iC b11, iC b12, iC b13, iC b14, iC b15, iC b16, iC b17, iC b18, iC b19, iC b20, iC b21, iC b22, iC b23])) [] 0 [some [D.lit (.bool true)]] none, .no] [1, 2, 4] [0, 1] (P := (_)) (l' := [(1, iV v), (2, rV 0 0), (4, rV 1 0)]) (g' := [(0, some (28, .ds [iD li, D.lit (.slice none 0 0), iD 0, iD 0, iD 0, iD 0, iD 0, iD 0, iD b0, iD b1, iD b2, iD b3, iD b4, iD b5, iD b6, iD b7, iD b8, iD b9, iD b10, iD b11, iD b12, iD b13, iD b14, iD b15, iD b16, iD b17, iD b18, iD b19, iD b20, iD b21, iD b22, iD b23])), (1, some (28, .ds [iD 0, D.lit (.slice none 0 0), iD 0, iD 0, iD 0, iD 0, iD 0, iD 0, iD 0, iD 0, iD 0, iD 0, iD 0, iD 0, iD 0, iD 0, iD 0, iD 0, iD 0, iD 0, iD 0, iD 0, iD 0, iD 0, iD 0, iD 0, iD 0, iD 0, iD 0, iD 0, iD 0, iD 0]))]) (nx' := 2) (by kernel_rfl) (R_fr li b0 b1 b2 b3 b4 b5 b6 b7 b8 b9 b10 b11 b12 b13 b14 b15 b16 b17 b18 b19 b20 b21 b22 b23) ?_
  have hx1 : ((lnB v) ≤ 22) := (ln_22 ((by omega)))
  refine AW.rgs [.no, .w, .call [] (iV (((lnB v) : Nat) : Int)) [] 0 [] none, .no, .no] [2, 4, 6] [0, 1] (P := (0 ≤ v ∧ v ≤ 18446744073709551615) ∧ (_)) (l' := [(2, rV 0 0), (4, rV 1 0), (6, iV (min (((lnB v) : Nat) : Int) 23))]) (g' := [(0, some (28, .ds [iD li, D.lit (.slice none 0 0), iD 0, iD 0, iD 0, iD 0, iD 0, iD 0, iD b0, iD b1, iD b2, iD b3, iD b4, iD b5, iD b6, iD b7, iD b8, iD b9, iD b10, iD b11, iD b12, iD b13, iD b14, iD b15, iD b16, iD b17, iD b18, iD b19, iD b20, iD b21, iD b22, iD b23])), (1, some (28, .ds [iD 0, D.lit (.slice none 0 0), iD 0, iD 0, iD 0, iD 0, iD 0, iD 0, iD 0, iD 0, iD 0, iD 0, iD 0, iD 0, iD 0, iD 0, iD 0, iD 0, iD 0, iD 0, iD 0, iD 0, iD 0, iD 0, iD 0, iD 0, iD 0, iD 0, iD 0, iD 0, iD 0, iD 0]))]) (nx' := 2) (by kernel_rfl) ⟨⟨by omega, by omega⟩, (R_Len v (by omega))⟩ ?_
  refine AW.rgs [.no, .no, .no, .n2 21 29, .no, .call [] (iV (b21 + 1)) [] 0 [] none, .no, .n2 21 29, .no] [2, 4] [0, 1] (P := (((min (((lnB v) : Nat) : Int) 23) : Int) = 21) ∧ ((21 : Nat) < 24) ∧ ((8 : Nat) + 21 * 1 = 29) ∧ (_) ∧ (((min (((lnB v) : Nat) : Int) 23) : Int) = 21) ∧ ((21 : Nat) < 24) ∧ ((8 : Nat) + 21 * 1 = 29)) (l' := [(2, rV 0 0), (4, rV 1 0)]) (g' := [(0, some (28, .ds [iD li, D.lit (.slice none 0 0), iD 0, iD 0, iD 0, iD 0, iD 0, iD 0, iD b0, iD b1, iD b2, iD b3, iD b4, iD b5, iD b6, iD b7, iD b8, iD b9, iD b10, iD b11, iD b12, iD b13, iD b14, iD b15, iD b16, iD b17, iD b18, iD b19, iD b20, iD (b21 + 1), iD b22, iD b23])), (1, some (28, .ds [iD 0, D.lit (.slice none 0 0), iD 0, iD 0, iD 0, iD 0, iD 0, iD 0, iD 0, iD 0, iD 0, iD 0, iD 0, iD 0, iD 0, iD 0, iD 0, iD 0, iD 0, iD 0, iD 0, iD 0, iD 0, iD 0, iD 0, iD 0, iD 0, iD 0, iD 0, iD 0, iD 0, iD 0]))]) (nx' := 2) (by kernel_rfl) ⟨(by first | rfl | omega), (by omega), (by omega), (R_ctd b21 (by omega)), (by first | rfl | omega), (by omega), (by omega)⟩ ?_
  refine AW.rgs [.no, .no, .no] [4, 5] [1] (P := True) (l' := [(4, rV 1 0), (5, iV 0)]) (g' := [(1, some (28, .ds [iD li, D.lit (.slice none 0 0), iD 0, iD 0, iD 0, iD 0, iD 0, iD 0, iD b0, iD b1, iD b2, iD b3, iD b4, iD b5, iD b6, iD b7, iD b8, iD b9, iD b10, iD b11, iD b12, iD b13, iD b14, iD b15, iD b16, iD b17, iD b18, iD b19, iD b20, iD (b21 + 1), iD b22, iD b23]))]) (nx' := 2) (by kernel_rfl) trivial ?_
  refine AW.ret ?_
  exact EndP.of (.inr rfl) [] (P := ((li : Int) = li) ∧ ((.slice none 0 0 : Value) = .slice none 0 0) ∧ ((0 : Int) = 0) ∧ ((0 : Int) = 0) ∧ ((0 : Int) = 0) ∧ ((0 : Int) = 0) ∧ ((0 : Int) = 0) ∧ ((0 : Int) = 0) ∧ ((b0 : Int) = b0) ∧ ((b1 : Int) = b1) ∧ ((b2 : Int) = b2) ∧ ((b3 : Int) = b3) ∧ ((b4 : Int) = b4) ∧ ((b5 : Int) = b5) ∧ ((b6 : Int) = b6) ∧ ((b7 : Int) = b7) ∧ ((b8 : Int) = b8) ∧ ((b9 : Int) = b9) ∧ ((b10 : Int) = b10) ∧ ((b11 : Int) = b11) ∧ ((b12 : Int) = b12) ∧ ((b13 : Int) = b13) ∧ ((b14 : Int) = b14) ∧ ((b15 : Int) = b15) ∧ ((b16 : Int) = b16) ∧ ((b17 : Int) = b17) ∧ ((b18 : Int) = b18) ∧ ((b19 : Int) = b19) ∧ ((b20 : Int) = b20) ∧ (((b21 + 1) : Int) = (b21 + 1)) ∧ ((b22 : Int) = b22) ∧ ((b23 : Int) = b23) ∧ ((0 : Int) = 0)) (by kernel_rfl) ⟨rfl, rfl, rfl, rfl, rfl, rfl, rfl, rfl, rfl, rfl, rfl, rfl, rfl, rfl, rfl, rfl, rfl, rfl, rfl, rfl, rfl, rfl, rfl, rfl, rfl, rfl, rfl, rfl, rfl, rfl, rfl, rfl, rfl⟩

set_option maxHeartbeats 4000000 in
set_option maxRecDepth 100000 in
theorem R_ms22 (li b0 b1 b2 b3 b4 b5 b6 b7 b8 b9 b10 b11 b12 b13 b14 b15 b16 b17 b18 b19 b20 b21 b22 b23 v : Int) (hli : 1 ≤ li ∧ li ≤ 256) (hB : bkOk [b0, b1, b2, b3, b4, b5, b6, b7, b8, b9, b10, b11, b12, b13, b14, b15, b16, b17, b18, b19, b20, b21, b22, b23]) (hv : 0 ≤ v ∧ v < 4194304) (hk : lnB v = 22) : Fun 6 [.agg [iC li, .d (D.lit (.slice none 0 0)), iC 0, iC 0, iC 0, iC 0, iC 0, iC 0, iC b0, iC b1, iC b2, iC b3, iC b4, iC b5, iC b6, iC b7, iC b8, iC b9, iC b10, iC b11, iC b12, iC b13, iC b14, iC b15, iC b16, iC b17, iC b18, iC b19, iC b20, iC b21, iC b22, iC b23], iE v] (toG []) 0 (.tup [.agg [iC li, .d (D.lit (.slice none 0 0)), iC 0, iC 0, iC 0, iC 0, iC 0, iC 0, iC b0, iC b1, iC b2, iC b3, iC b4, iC b5, iC b6, iC b7, iC b8, iC b9, iC b10, iC b11, iC b12, iC b13, iC b14, iC b15, iC b16, iC b17, iC b18, iC b19, iC b20, iC b21, iC (b22 + 1), iC b23], iE 0]) (toG []) 0 := by
  have hb0 : 0 ≤ b0 ∧ b0 ≤ 1000 := hB 0 (by omega)
  have hb1 : 0 ≤ b1 ∧ b1 ≤ 1000 := hB 1 (by omega)
  have hb2 : 0 ≤ b2 ∧ b2 ≤ 1000 := hB 2 (by omega)
  have hb3 : 0 ≤ b3 ∧ b3 ≤ 1000 := hB 3 (by omega)
  have hb4 : 0 ≤ b4 ∧ b4 ≤ 1000 := hB 4 (by omega)
  have hb5 : 0 ≤ b5 ∧ b5 ≤ 1000 := hB 5 (by omega)
  have hb6 : 0 ≤ b6 ∧ b6 ≤ 1000 := hB 6 (by omega)
  have hb7 : 0 ≤ b7 ∧ b7 ≤ 1000 := hB 7 (by omega)
  have hb8 : 0 ≤ b8 ∧ b8 ≤ 1000 := hB 8 (by omega)
  have hb9 : 0 ≤ b9 ∧ b9 ≤ 1000 := hB 9 (by omega)
  have hb10 : 0 ≤ b10 ∧ b10 ≤ 1000 := hB 10 (by omega)
  have hb11 : 0 ≤ b11 ∧ b11 ≤ 1000 := hB 11 (by omega)
  have hb12 : 0 ≤ b12 ∧ b12 ≤ 1000 := hB 12 (by omega)
  have hb13 : 0 ≤ b13 ∧ b13 ≤ 1000 := hB 13 (by omega)
  have hb14 : 0 ≤ b14 ∧ b14 ≤ 1000 := hB 14 (by omega)
  have hb15 : 0 ≤ b15 ∧ b15 ≤ 1000 := hB 15 (by omega)
  have hb16 : 0 ≤ b16 ∧ b16 ≤ 1000 := hB 16 (by omega)
  have hb17 : 0 ≤ b17 ∧ b17 ≤ 1000 := hB 17 (by omega)
  have hb18 : 0 ≤ b18 ∧ b18 ≤ 1000 := hB 18 (by omega)
  have hb19 : 0 ≤ b19 ∧ b19 ≤ 1000 := hB 19 (by omega)
  have hb20 : 0 ≤ b20 ∧ b20 ≤ 1000 := hB 20 (by omega)
  have hb21 : 0 ≤ b21 ∧ b21 ≤ 1000 := hB 21 (by omega)
  have hb22 : 0 ≤ b22 ∧ b22 ≤ 1000 := hB 22 (by omega)
  have hb23 : 0 ≤ b23 ∧ b23 ≤ 1000 := hB 23 (by omega)
  refine Fun.mk (n := 29) Try.func6 rfl rfl (Nat.le_of_ble_eq_true rfl) ?_
  intro cx hcx
  refine AW.rgs [.no, .no, .no] [1, 2, 4] [0, 1] (P := True) (l' := [(1, iV v), (2, rV 0 0), (4, rV 1 0)]) (g' := [(0, some (28, .ds [iD li, D.lit (.slice none 0 0), iD 0, iD 0, iD 0, iD 0, iD 0, iD 0, iD b0, iD b1, iD b2, iD b3, iD b4, iD b5, iD b6, iD b7, iD b8, iD b9, iD b10, iD b11, iD b12, iD b13, iD b14, iD b15, iD b16, iD b17, iD b18, iD b19, iD b20, iD b21, iD b22, iD b23])), (1, some (28, .ds [iD 0, D.lit (.slice none 0 0), iD 0, iD 0, iD 0, iD 0, iD 0, iD 0, iD 0, iD 0, iD 0, iD 0, iD 0, iD 0, iD 0, iD 0, iD 0, iD 0, iD 0, iD 0, iD 0, iD 0, iD 0, iD 0, iD 0, iD 0, iD 0, iD 0, iD 0, iD 0, iD 0, iD 0]))]) (nx' := 2) (by kernel_rfl) trivial ?_
  refine AW.seq ?_
  refine AW.rgs [.no, .call [] (bV true) [] 0 [some [D.lit (.bool true)]] none, .no] [1, 2, 4, 9] [0, 1] (P := (_)) (l' := [(1, iV v), (2, rV 0 0), (4, rV 1 0), (9, bV false)]) (g' := [(0, some (28, .ds [iD li, D.lit (.slice none 0 0), iD 0, iD 0, iD 0, iD 0, iD 0, iD 0, iD b0, iD b1, iD b2, iD b3, iD b4, iD b5, iD b6, iD b7, iD b8, iD b9, iD b10, iD b11, iD b12, iD b13, iD b14, iD b15, iD b16, iD b17, iD b18, iD b19, iD b20, iD b21, iD b22, iD b23])), (1, some (28, .ds [iD 0, D.lit (.slice none 0 0), iD 0, iD 0, iD 0, iD 0, iD 0, iD 0, iD 0, iD 0, iD 0, iD 0, iD 0, iD 0, iD 0, iD 0, iD 0, iD 0, iD 0, iD 0, iD 0, iD 0, iD 0, iD 0, iD 0, iD 0, iD 0, iD 0, iD 0, iD 0, iD 0, iD 0]))]) (nx' := 2) (by kernel_rfl) (R_val li b0 b1 b2 b3 b4 b5 b6 b7 b8 b9 b10 b11 b12 b13 b14 b15 b16 b17 b18 b19 b20 b21 b22 b23 (by omega) (by first | omega | with_reducible assumption | (simp <;> omega) | rfl | assumption)) ?_
  refine AW.cond_f (.tmp (Look.of rfl)) ?_
  refine AW.skip ?_
  refine AW.seq ?_
  refine AW.rgs [.no, .b false] [1, 2, 4, 12] [0, 1] (P := (¬ (v < 0))) (l' := [(1, iV v), (2, rV 0 0), (4, rV 1 0), (12, bV false)]) (g' := [(0, some (28, .ds [iD li, D.lit (.slice none 0 0), iD 0, iD 0, iD 0, iD 0, iD 0, iD 0, iD b0, iD b1, iD b2, iD b3, iD b4, iD b5, iD b6, iD b7, iD b8, iD b9, iD b10, iD b11, iD b12, iD b13, iD b14, iD b15, iD b16, iD b17, iD b18, iD b19, iD b20, iD b21, iD b22, iD b23])), (1, some (28, .ds [iD 0, D.lit (.slice none 0 0), iD 0, iD 0, iD 0, iD 0, iD 0, iD 0, iD 0, iD 0, iD 0, iD 0, iD 0, iD 0, iD 0, iD 0, iD 0, iD 0, iD 0, iD 0, iD 0, iD 0, iD 0, iD 0, iD 0, iD 0, iD 0, iD 0, iD 0, iD 0, iD 0, iD 0]))]) (nx' := 2) (by kernel_rfl) (by omega) ?_
  refine AW.cond_f (.tmp (Look.of rfl)) ?_
  refine AW.skip ?_
  refine AW.rgs [.no, .call [] (.e (.agg [iC li, .d (D.lit (.slice none 0 0)), iC 0, iC 0, iC 0, iC 0, iC 0, iC 0, iC b0, iC b1, iC b2, iC b3, iC b4, iC b5, iC b6, iC b7, iC b8, iC b9, iC b10, iC b11, iC b12, iC b13, iC b14, iC b15, iC b16, iC b17, iC b18, iC b19, iC b20, iC b21, iC b22, iC b23])) [] 0 [some [D.lit (.bool true)]] none, .no] [1, 2, 4] [0, 1] (P := (_)) (l' := [(1, iV v), (2, rV 0 0), (4, rV 1 0)]) (g' := [(0, some (28, .ds [iD li, D.lit (.slice none 0 0), iD 0, iD 0, iD 0, iD 0, iD 0, iD 0, iD b0, iD b1, iD b2, iD b3, iD b4, iD b5, iD b6, iD b7, iD b8, iD b9, iD b10, iD b11, iD b12, iD b13, iD b14, iD b15, iD b16, iD b17, iD b18, iD b19, iD b20, iD b21, iD b22, iD b23])), (1, some (28, .ds [iD 0, D.lit (.slice none 0 0), iD 0, iD 0, iD 0, iD 0, iD 0, iD 0, iD 0, iD 0, iD 0, iD 0, iD 0, iD 0, iD 0, iD 0, iD 0, iD 0, iD 0, iD 0, iD 0, iD 0, iD 0, iD 0, iD 0, iD 0, iD 0, iD 0, iD 0, iD 0, iD 0, iD 0]))]) (nx' := 2) (by kernel_rfl) (R_fr li b0 b1 b2 b3 b4 b5 b6 b7 b8 b9 b10 b11 b12 b13 b14 b15 b16 b17 b18 b19 b20 b21 b22 b23) ?_
  have hx1 : ((lnB v) ≤ 22) := (ln_22 ((by omega)))
  refine AW.rgs [.no, .w, .call [] (iV (((lnB v) : Nat) : Int)) [] 0 [] none, .no, .no] [2, 4, 6] [0, 1] (P := (0 ≤ v ∧ v ≤ 18446744073709551615) ∧ (_)) (l' := [(2, rV 0 0), (4, rV 1 0), (6, iV (min (((lnB v) : Nat) : Int) 23))]) (g' := [(0, some (28, .ds [iD li, D.lit (.slice none 0 0), iD 0, iD 0, iD 0, iD 0, iD 0, iD 0, iD b0, iD b1, iD b2, iD b3, iD b4, iD b5, iD b6, iD b7, iD b8, iD b9, iD b10, iD b11, iD b12, iD b13, iD b14, iD b15, iD b16, iD b17, iD b18, iD b19, iD b20, iD b21, iD b22, iD b23])), (1, some (28, .ds [iD 0, D.lit (.slice none 0 0), iD 0, iD 0, iD 0, iD 0, iD 0, iD 0, iD 0, iD 0, iD 0, iD 0, iD 0, iD 0, iD 0, iD 0, iD 0, iD 0, iD 0, iD 0, iD 0, iD 0, iD 0, iD 0, iD 0, iD 0, iD 0, iD 0, iD 0, iD 0, iD 0, iD 0]))]) (nx' := 2) (by kernel_rfl) ⟨⟨by omega, by omega⟩, (R_Len v (by omega))⟩ ?_
  refine AW.rgs [.no, .no, .no, .n2 22 30, .no, .call [] (iV (b22 + 1)) [] 0 [] none, .no, .n2 22 30, .no] [2, 4] [0, 1] (P := (((min (((lnB v) : Nat) : Int) 23) : Int) = 22) ∧ ((22 : Nat) < 24) ∧ ((8 : Nat) + 22 * 1 = 30) ∧ (_) ∧ (((min (((lnB v) : Nat) : Int) 23) : Int) = 22) ∧ ((22 : Nat) < 24) ∧ ((8 : Nat) + 22 * 1 = 30)) (l' := [(2, rV 0 0), (4, rV 1 0)]) (g' := [(0, some (28, .ds [iD li, D.lit (.slice none 0 0), iD 0, iD 0, iD 0, iD 0, iD 0, iD 0, iD b0, iD b1, iD b2, iD b3, iD b4, iD b5, iD b6, iD b7, iD b8, iD b9, iD b10, iD b11, iD b12, iD b13, iD b14, iD b15, iD b16, iD b17, iD b18, iD b19, iD b20, iD b21, iD (b22 + 1), iD b23])), (1, some (28, .ds [iD 0, D.lit (.slice none 0 0), iD 0, iD 0, iD 0, iD 0, iD 0, iD 0, iD 0, iD 0, iD 0, iD 0, iD 0, iD 0, iD 0, iD 0, iD 0, iD 0, iD 0, iD 0, iD 0, iD 0, iD 0, iD 0, iD 0, iD 0, iD 0, iD 0, iD 0, iD 0, iD 0, iD 0]))]) (nx' := 2) (by kernel_rfl) ⟨(by first | rfl | omega), (by omega), (by omega), (R_ctd b22 (by omega)), (by first | rfl | omega), (by omega), (by omega)⟩ ?_
  refine AW.rgs [.no, .no, .no] [4, 5] [1] (P := True) (l' := [(4, rV 1 0), (5, iV 0)]) (g' := [(1, some (28, .ds [iD li, D.lit (.slice none 0 0), iD 0, iD 0, iD 0, iD 0, iD 0, iD 0, iD b0, iD b1, iD b2, iD b3, iD b4, iD b5, iD b6, iD b7, iD b8, iD b9, iD b10, iD b11, iD b12, iD b13, iD b14, iD b15, iD b16, iD b17, iD b18, iD b19, iD b20, iD b21, iD (b22 + 1), iD b23]))]) (nx' := 2) (by kernel_rfl) trivial ?_
  refine AW.ret ?_
  exact EndP.of (.inr rfl) [] (P := ((li : Int) = li) ∧ ((.slice none 0 0 : Value) = .slice none 0 0) ∧ ((0 : Int) = 0) ∧ ((0 : Int) = 0) ∧ ((0 : Int) = 0) ∧ ((0 : Int) = 0) ∧ ((0 : Int) = 0) ∧ ((0 : Int) = 0) ∧ ((b0 : Int) = b0) ∧ ((b1 : Int) = b1) ∧ ((b2 : Int) = b2) ∧ ((b3 : Int) = b3) ∧ ((b4 : Int) = b4) ∧ ((b5 : Int) = b5) ∧ ((b6 : Int) = b6) ∧ ((b7 : Int) = b7) ∧ ((b8 : Int) = b8) ∧ ((b9 : Int) = b9) ∧ ((b10 : Int) = b10) ∧ ((b11 : Int) = b11) ∧ ((b12 : Int) = b12) ∧ ((b13 : Int) = b13) ∧ ((b14 : Int) = b14) ∧ ((b15 : Int) = b15) ∧ ((b16 : Int) = b16) ∧ ((b17 : Int) = b17) ∧ ((b18 : Int) = b18) ∧ ((b19 : Int) = b19) ∧ ((b20 : Int) = b20) ∧ ((b21 : Int) = b21) ∧ (((b22 + 1) : Int) = (b22 + 1)) ∧ ((b23 : Int) = b23) ∧ ((0 : Int) = 0)) (by kernel_rfl) ⟨rfl, rfl, rfl, rfl, rfl, rfl, rfl, rfl, rfl, rfl, rfl, rfl, rfl, rfl, rfl, rfl, rfl, rfl, rfl, rfl, rfl, rfl, rfl, rfl, rfl, rfl, rfl, rfl, rfl, rfl, rfl, rfl, rfl⟩

end Go.Proofs.Ytbkjhfjjkihebaa
