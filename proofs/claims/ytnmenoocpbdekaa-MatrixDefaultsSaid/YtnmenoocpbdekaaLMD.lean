/- Laws of matrices. No statement is proved here. -/
import Derived.Test.YtnmenoocpbdekaaL07E
namespace Go.Proofs.Ytnmenoocpbdekaa
open Go.ChangeShapes Go.WideShapes Go.ChangeAt Go.RowKit
set_option linter.unusedVariables false
set_option linter.unusedSimpArgs false

set_option maxHeartbeats 4000000 in
set_option maxRecDepth 100000 in
theorem M_MatrixDefaults (la : List Int) (q : Nat) (lb : List Int) (p : Nat) (hl : List.length la = q) (hn : List.length lb = p) (hb1 : q ≤ 9223372036854775807) (hb2 : p ≤ 9223372036854775807) : Fun 9 [.c (.d (D.sl (dI .i64 la) q)), .c (.d (D.sl (dI .i64 lb) p))] (toG []) 0 (bV true) (toG []) 0 := by
  refine Fun.mk (n := 39) Try.func9 rfl rfl (Nat.le_of_ble_eq_true rfl) ?_
  intro cx hcx
  refine AW.rgs [.no] [0, 1] [] (P := True) (l' := [(0, sV .i64 la q), (1, sV .i64 lb p)]) (g' := []) (nx' := 0) (by kernel_rfl) trivial ?_
  refine AW.seq ?_
  refine AW.rgs [.call [] (bV true) [] 0 [] none, .no] [0, 1, 10] [] (P := (_)) (l' := [(0, sV .i64 la q), (1, sV .i64 lb p), (10, bV false)]) (g' := []) (nx' := 0) (by kernel_rfl) (M_sane) ?_
  refine AW.cond_f (.tmp (Look.of rfl)) ?_
  refine AW.skip ?_
  refine AW.seq ?_
  by_cases hx1 : ((12 : Int) < ((q : Nat) : Int))
  · refine AW.rgs [.no, .no, .b true, .no, .no] [0, 1, 18] [] (P := (((12 : Int) < ((q : Nat) : Int)))) (l' := [(0, sV .i64 la q), (1, sV .i64 lb p), (18, bV true)]) (g' := []) (nx' := 0) (by kernel_rfl) (by omega) ?_
    refine AW.cond_t (.tmp (Look.of rfl)) ?_
    refine AW.rgs [.no] [4] [] (P := True) (l' := [(4, bV true)]) (g' := []) (nx' := 0) (by kernel_rfl) trivial ?_
    refine AW.ret ?_
    exact EndP.of (.inr rfl) [] (P := (true = true)) (by kernel_rfl) rfl
  · by_cases hx2 : ((12 : Int) < ((p : Nat) : Int))
    · refine AW.rgs [.no, .no, .b false, .no, .no, .no, .b true, .no] [0, 1, 18] [] (P := (¬ ((12 : Int) < ((q : Nat) : Int))) ∧ (((12 : Int) < ((p : Nat) : Int)))) (l' := [(0, sV .i64 la q), (1, sV .i64 lb p), (18, bV true)]) (g' := []) (nx' := 0) (by kernel_rfl) ⟨(by omega), (by omega)⟩ ?_
      refine AW.cond_t (.tmp (Look.of rfl)) ?_
      refine AW.rgs [.no] [4] [] (P := True) (l' := [(4, bV true)]) (g' := []) (nx' := 0) (by kernel_rfl) trivial ?_
      refine AW.ret ?_
      exact EndP.of (.inr rfl) [] (P := (true = true)) (by kernel_rfl) rfl
    · refine AW.rgs [.no, .no, .b false, .no, .no, .no, .b false, .no] [0, 1, 18] [] (P := (¬ ((12 : Int) < ((q : Nat) : Int))) ∧ (¬ ((12 : Int) < ((p : Nat) : Int)))) (l' := [(0, sV .i64 la q), (1, sV .i64 lb p), (18, bV false)]) (g' := []) (nx' := 0) (by kernel_rfl) ⟨(by omega), (by omega)⟩ ?_
      refine AW.cond_f (.tmp (Look.of rfl)) ?_
      refine AW.skip ?_
      rcases Bool.eq_false_or_eq_true (chB la q) with hx3 | hx3
      · have hx4 : 1 ≤ q ∧ q ≤ 8 := chB_n hx3
        rcases Bool.eq_false_or_eq_true (chB lb p) with hx5 | hx5
        · have hx6 : 1 ≤ p ∧ p ≤ 8 := chB_n hx5
          have hx7 : q * p ≤ 64 := Nat.mul_le_mul (show q ≤ 8 by omega) (show p ≤ 8 by omega)
          have hx8 : ((List.length (dfL la lb q p q)) = (q * p)) := dfL_len la lb q p q
          refine AW.rgs [.no, .no, .call [] (.tup [.agg [iC ((q : Nat) : Int), iC ((p : Nat) : Int), .own 0 0 (q * p) 1 true], iE 0]) [(0, some (3, .ds (dI .i64 (dfL la lb q p q))))] 1 [] none, .no, .no, .no, .no, .no, .no] [0, 1, 5, 6] [0, 1] (P := (_)) (l' := [(0, sV .i64 la q), (1, sV .i64 lb p), (5, rV 1 0), (6, iV 0)]) (g' := [(0, some (3, .ds (dI .i64 (dfL la lb q p q)))), (1, some (77, .cs [iC ↑q, iC ↑p, .own 0 0 (q * p) 1 true]))]) (nx' := 2) (by kernel_rfl) (D_Def la lb q p (by omega) (by omega) (by omega) (by omega) hx3 hx5) ?_
          have hx9 : ((List.length (dfL la lb q p q)) = (q * p)) := dfL_len la lb q p q
          refine AW.rgs [.no, .no, .call [] (.tup [.agg [iC ((q : Nat) : Int), iC ((p : Nat) : Int), .own 0 0 (q * p) 1 true], iE 0]) [(0, some (3, .ds (dI .i64 (dfL la lb q p q))))] 1 [] none, .no, .no, .no, .no, .no, .no] [5, 6, 7, 8] [0, 1, 2, 3] (P := (_)) (l' := [(5, rV 1 0), (6, iV 0), (7, rV 3 0), (8, iV 0)]) (g' := [(0, some (3, .ds (dI .i64 (dfL la lb q p q)))), (1, some (77, .cs [iC ↑q, iC ↑p, .own 0 0 (q * p) 1 true])), (2, some (3, .ds (dI .i64 (dfL la lb q p q)))), (3, some (77, .cs [iC ↑q, iC ↑p, .own 2 0 (q * p) 1 true]))]) (nx' := 4) (by kernel_rfl) (D_rDef la lb q p (by omega) (by omega) (by omega) (by omega) hx3 hx5) ?_
          refine AW.rgs [.no, .no, .b true, .no, .no, .no, .call [] (bV true) [] 0 [none, none] none, .no, .no] [4] [] (P := (((0 : Int) = 0)) ∧ ((dI .i64 (dfL la lb q p q)).length = (q * p) * 1) ∧ ((dI .i64 (dfL la lb q p q)).length = (q * p) * 1) ∧ (noSlPV (bV true) = true) ∧ (_)) (l' := [(4, bV true)]) (g' := []) (nx' := 4) (by kernel_rfl) ⟨(by omega), (by first | omega | (rw [dI_len]; omega) | (simp [dI_len] <;> omega) | rfl), (by first | omega | (rw [dI_len]; omega) | (simp [dI_len] <;> omega) | rfl), rfl, (Fun.y (M_Same ((q : Nat) : Int) ((p : Nat) : Int) ((q : Nat) : Int) ((p : Nat) : Int) (dfL la lb q p q) (dfL la lb q p q) (q * p) (q * p) (by first | omega | with_reducible assumption | (simp <;> omega) | rfl | assumption) (by first | omega | with_reducible assumption | (simp <;> omega) | rfl | assumption) (by omega) (by omega)) (y' := bV true) (by simp [sameL_rfl]))⟩ ?_
          refine AW.ret ?_
          exact EndP.of (.inr rfl) [] (P := (true = true)) (by kernel_rfl) rfl
        · refine AW.rgs [.no, .no, .call [] (.tup [.agg [iC 0, iC 0, .d (D.lit (.slice none 0 0))], iE 1]) [] 0 [] none, .no, .no, .no, .no, .no, .no] [0, 1, 5, 6] [0] (P := (_)) (l' := [(0, sV .i64 la q), (1, sV .i64 lb p), (5, rV 0 0), (6, iV 1)]) (g' := [(0, some (77, .ds [iD 0, iD 0, D.lit (.slice none 0 0)]))]) (nx' := 1) (by kernel_rfl) (D_Def_n2 la lb q p (by omega) (by omega) (by omega) (by omega) hx3 hx5) ?_
          refine AW.rgs [.no, .no, .call [] (.tup [.agg [iC 0, iC 0, .d (D.lit (.slice none 0 0))], iE 1]) [] 0 [] none, .no, .no, .no, .no, .no, .no] [5, 6, 7, 8] [0, 1] (P := (_)) (l' := [(5, rV 0 0), (6, iV 1), (7, rV 1 0), (8, iV 1)]) (g' := [(0, some (77, .ds [iD 0, iD 0, D.lit (.slice none 0 0)])), (1, some (77, .ds [iD 0, iD 0, D.lit (.slice none 0 0)]))]) (nx' := 2) (by kernel_rfl) (D_rDef_n2 la lb q p (by omega) (by omega) (by omega) (by omega) hx3 hx5) ?_
          refine AW.rgs [.no, .no, .b true, .no, .no, .no, .call [] (bV true) [] 0 [] none, .no, .no] [4] [] (P := (((1 : Int) = 1)) ∧ (_)) (l' := [(4, bV true)]) (g' := []) (nx' := 2) (by kernel_rfl) ⟨(by omega), (Fun.y (M_Same 0 0 0 0 ([] : List Int) ([] : List Int) 0 0 rfl rfl (by omega) (by omega)) (y' := bV true) (by simp [sameL_rfl]))⟩ ?_
          refine AW.ret ?_
          exact EndP.of (.inr rfl) [] (P := (true = true)) (by kernel_rfl) rfl
      · refine AW.rgs [.no, .no, .call [] (.tup [.agg [iC 0, iC 0, .d (D.lit (.slice none 0 0))], iE 1]) [] 0 [] none, .no, .no, .no, .no, .no, .no] [0, 1, 5, 6] [0] (P := (_)) (l' := [(0, sV .i64 la q), (1, sV .i64 lb p), (5, rV 0 0), (6, iV 1)]) (g' := [(0, some (77, .ds [iD 0, iD 0, D.lit (.slice none 0 0)]))]) (nx' := 1) (by kernel_rfl) (D_Def_n1 la lb q p (by omega) (by omega) (by omega) (by omega) hx3) ?_
        refine AW.rgs [.no, .no, .call [] (.tup [.agg [iC 0, iC 0, .d (D.lit (.slice none 0 0))], iE 1]) [] 0 [] none, .no, .no, .no, .no, .no, .no] [5, 6, 7, 8] [0, 1] (P := (_)) (l' := [(5, rV 0 0), (6, iV 1), (7, rV 1 0), (8, iV 1)]) (g' := [(0, some (77, .ds [iD 0, iD 0, D.lit (.slice none 0 0)])), (1, some (77, .ds [iD 0, iD 0, D.lit (.slice none 0 0)]))]) (nx' := 2) (by kernel_rfl) (D_rDef_n1 la lb q p (by omega) (by omega) (by omega) (by omega) hx3) ?_
        refine AW.rgs [.no, .no, .b true, .no, .no, .no, .call [] (bV true) [] 0 [] none, .no, .no] [4] [] (P := (((1 : Int) = 1)) ∧ (_)) (l' := [(4, bV true)]) (g' := []) (nx' := 2) (by kernel_rfl) ⟨(by omega), (Fun.y (M_Same 0 0 0 0 ([] : List Int) ([] : List Int) 0 0 rfl rfl (by omega) (by omega)) (y' := bV true) (by simp [sameL_rfl]))⟩ ?_
        refine AW.ret ?_
        exact EndP.of (.inr rfl) [] (P := (true = true)) (by kernel_rfl) rfl

theorem matrixDefaults_walk {w : World}  {xa0 : Option Addr} {xl0 xc0 : Nat} {la : List Int} (hs0 : Sl .i64 w xa0 xl0 xc0 la) {xa1 : Option Addr} {xl1 xc1 : Nat} {lb : List Int} (hs1 : Sl .i64 w xa1 xl1 xc1 lb)  : Calls Try.prog 9 #[.slice xa0 xl0 xc0, .slice xa1 xl1 xc1] w fun e w' => e = .returned (.bool true) ∧ Below w.heap.size w w' :=
  (M_MatrixDefaults la (List.length la) lb (List.length lb) rfl rfl hs0.max hs1.max).walk ⟨repE_sl hs0, repE_sl hs1, trivial⟩

end Go.Proofs.Ytnmenoocpbdekaa
