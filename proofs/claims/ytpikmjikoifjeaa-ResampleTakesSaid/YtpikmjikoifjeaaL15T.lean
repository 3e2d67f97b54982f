/- Taking and finishing refused. No statement is proved here. -/
import Derived.Test.YtpikmjikoifjeaaL15F
import Derived.Test.YtpikmjikoifjeaaLMade
namespace Go.Proofs.Ytpikmjikoifjeaa
open Go.ChangeShapes Go.WideShapes Go.ChangeAt Go.RowKit
set_option linter.unusedVariables false
set_option linter.unusedSimpArgs false


theorem left_is {W k i : Nat} {f s P : Int} (hf : 0 ≤ f ∧ f < P) (hs : 0 < s) (hi : i ≤ k) (h1 : i = 0 ∨ mvV f s (i - 1) / P < ((W : Nat) : Int)) (h2 : i = k ∨ ((W : Nat) : Int) ≤ mvV f s i / P) : leftV W f s P k = i := by
  have hP : 0 < P := by omega
  have a1 : i = 0 ∨ ((i : Nat) : Int) * s - s < ((W : Nat) : Int) * P - f := by
    rcases h1 with h1 | h1
    · exact .inl h1
    · by_cases h0 : i = 0
      · exact .inl h0
      · right
        rw [Int.ediv_lt_iff_lt_mul hP] at h1
        unfold mvV at h1
        have e : ((i : Nat) : Int) * s = ((i - 1 : Nat) : Int) * s + s := by rw [show ((i : Nat) : Int) = ((i - 1 : Nat) : Int) + 1 by omega, Int.add_mul, Int.one_mul]
        omega
  have a2 : i = k ∨ ((W : Nat) : Int) * P - f ≤ ((i : Nat) : Int) * s := by
    rcases h2 with h2 | h2
    · exact .inl h2
    · right
      rw [Int.le_ediv_iff_mul_le hP] at h2
      unfold mvV at h2
      omega
  unfold leftV
  by_cases hu : ((W : Nat) : Int) * P - f ≤ 0
  · rw [if_pos hu]
    rcases a1 with a1 | a1
    · exact a1.symm
    · by_cases h0 : i = 0
      · exact h0.symm
      · have : 0 ≤ ((i : Nat) : Int) * s - s := by
          have := Int.mul_le_mul_of_nonneg_right (show (1 : Int) ≤ ((i : Nat) : Int) by omega) (show 0 ≤ s by omega)
          omega
        omega
  · rw [if_neg hu]
    have hq0 : 0 ≤ (((W : Nat) : Int) * P - f + s - 1) / s := Int.ediv_nonneg (by omega) (by omega)
    have lo : ((i : Nat) : Int) ≤ (((W : Nat) : Int) * P - f + s - 1) / s := by
      rw [Int.le_ediv_iff_mul_le hs]
      rcases a1 with a1 | a1
      · rw [a1]; omega
      · omega
    have hi2 : i = k ∨ (((W : Nat) : Int) * P - f + s - 1) / s ≤ ((i : Nat) : Int) := by
      rcases a2 with a2 | a2
      · exact .inl a2
      · right
        have : (((W : Nat) : Int) * P - f + s - 1) / s < ((i : Nat) : Int) + 1 := by
          rw [Int.ediv_lt_iff_lt_mul hs, Int.add_mul, Int.one_mul]; omega
        omega
    omega

set_option maxHeartbeats 4000000 in
set_option maxRecDepth 100000 in
theorem P_check_no (n d a p f : Int) (x : Int) (m : Int) (hv : PhV n d a p f) (hx : x < 0 ∨ m < x) : Fun 72 [.agg [iC n, iC d, iC a, iC p, iC f], iE x, iE m] (toG []) 0 (iV 2) (toG []) 0 := by
  have hok : phB n d a p f = true := hv.ok
  have hbd : (1 ≤ n ∧ n ≤ 768000) ∧ (1 ≤ d ∧ d ≤ 768000) ∧ (-4096 ≤ a ∧ a ≤ 4096) ∧ (0 ≤ p ∧ p ≤ 1125899906842624) ∧ 0 ≤ f ∧ f < d * 65536 := hv.b
  have hst : 61440 ≤ stp n a ∧ stp n a ≤ 53477376000 := stp_in hv.b.1 hv.b.2.2.1
  refine Fun.mk (n := 17) Try.func72 rfl rfl (Nat.le_of_ble_eq_true rfl) ?_
  intro cx hcx
  refine AW.rgs [.no, .no] [1, 2, 3] [0] (P := True) (l' := [(1, iV x), (2, iV m), (3, rV 0 0)]) (g' := [(0, some (25, .ds [iD n, iD d, iD a, iD p, iD f]))]) (nx' := 1) (by kernel_rfl) trivial ?_
  refine AW.seq ?_
  refine AW.rgs [.no, .call [] (bV true) [] 0 [] none, .no] [1, 2, 9] [] (P := (Fun 46 [.agg [iC n, iC d, iC a, iC p, iC f]] (toG []) 0 (bV true) (toG []) 0)) (l' := [(1, iV x), (2, iV m), (9, bV false)]) (g' := []) (nx' := 1) (by kernel_rfl) (by have h0 := (P_Valid n d a p f); rw [hok] at h0; exact h0) ?_
  refine AW.cond_f (.tmp (Look.of rfl)) ?_
  refine AW.skip ?_
  refine AW.seq ?_
  by_cases hx1 : (x < 0)
  · refine AW.rgs [.no, .b true, .no, .no] [16] [] (P := ((x < 0))) (l' := [(16, bV true)]) (g' := []) (nx' := 1) (by kernel_rfl) (by omega) ?_
    refine AW.cond_t (.tmp (Look.of rfl)) ?_
    refine AW.rgs [.no] [6] [] (P := True) (l' := [(6, iV 2)]) (g' := []) (nx' := 1) (by kernel_rfl) trivial ?_
    refine AW.ret ?_
    exact EndP.of (.inr rfl) [] (P := ((2 : Int) = 2)) (by kernel_rfl) rfl
  · refine AW.rgs [.no, .b false, .no, .no, .no, .b true, .no] [16] [] (P := (¬ (x < 0)) ∧ ((m < x))) (l' := [(16, bV true)]) (g' := []) (nx' := 1) (by kernel_rfl) ⟨(by omega), (by omega)⟩ ?_
    refine AW.cond_t (.tmp (Look.of rfl)) ?_
    refine AW.rgs [.no] [6] [] (P := True) (l' := [(6, iV 2)]) (g' := []) (nx' := 1) (by kernel_rfl) trivial ?_
    refine AW.ret ?_
    exact EndP.of (.inr rfl) [] (P := ((2 : Int) = 2)) (by kernel_rfl) rfl

set_option maxHeartbeats 4000000 in
set_option maxRecDepth 100000 in
theorem P_At_no (n d a p f : Int) (x : Int) (hv : PhV n d a p f) (hx : x < 0 ∨ 65536 < x) : Fun 85 [.agg [iC n, iC d, iC a, iC p, iC f], iE x] (toG []) 0 (.tup [iE 0, iE 0, iE 2]) (toG []) 0 := by
  have hok : phB n d a p f = true := hv.ok
  have hbd : (1 ≤ n ∧ n ≤ 768000) ∧ (1 ≤ d ∧ d ≤ 768000) ∧ (-4096 ≤ a ∧ a ≤ 4096) ∧ (0 ≤ p ∧ p ≤ 1125899906842624) ∧ 0 ≤ f ∧ f < d * 65536 := hv.b
  have hst : 61440 ≤ stp n a ∧ stp n a ≤ 53477376000 := stp_in hv.b.1 hv.b.2.2.1
  refine Fun.mk (n := 29) Try.func85 rfl rfl (Nat.le_of_ble_eq_true rfl) ?_
  intro cx hcx
  refine AW.rgs [.no, .no, .no, .no] [1, 2] [0] (P := True) (l' := [(1, iV x), (2, rV 0 0)]) (g' := [(0, some (25, .ds [iD n, iD d, iD a, iD p, iD f]))]) (nx' := 1) (by kernel_rfl) trivial ?_
  refine AW.seq ?_
  refine AW.rgs [.no, .no, .call [] (iV 2) [] 0 [] none, .no] [1, 2, 7] [0] (P := (_)) (l' := [(1, iV x), (2, rV 0 0), (7, iV 2)]) (g' := [(0, some (25, .ds [iD n, iD d, iD a, iD p, iD f]))]) (nx' := 1) (by kernel_rfl) (P_check_no n d a p f x 65536 (by first | omega | with_reducible assumption | (simp <;> omega) | rfl | assumption) (by first | omega | with_reducible assumption | (simp <;> omega) | rfl | assumption)) ?_
  refine AW.rgs [.no, .b true] [1, 2, 7, 13] [0] (P := (((2 : Int) ≠ 0))) (l' := [(1, iV x), (2, rV 0 0), (7, iV 2), (13, bV true)]) (g' := [(0, some (25, .ds [iD n, iD d, iD a, iD p, iD f]))]) (nx' := 1) (by kernel_rfl) (by omega) ?_
  refine AW.cond_t (.tmp (Look.of rfl)) ?_
  refine AW.rgs [.no, .no, .no, .no] [4, 5, 6] [] (P := True) (l' := [(4, iV 0), (5, iV 0), (6, iV 2)]) (g' := []) (nx' := 1) (by kernel_rfl) trivial ?_
  refine AW.ret ?_
  exact EndP.of (.inr rfl) [] (P := ((0 : Int) = 0) ∧ ((0 : Int) = 0) ∧ ((2 : Int) = 2)) (by kernel_rfl) ⟨rfl, rfl, rfl⟩

set_option maxHeartbeats 4000000 in
set_option maxRecDepth 100000 in
theorem P_rAt_no (n d a p f : Int) (x : Int) (hv : PhV n d a p f) (hx : x < 0 ∨ 65536 < x) : Fun 37 [.agg [iC n, iC d, iC a, iC p, iC f], iE x] (toG []) 0 (.tup [iE 0, iE 0, iE 2]) (toG []) 0 := by
  have hok : phB n d a p f = true := hv.ok
  have hbd : (1 ≤ n ∧ n ≤ 768000) ∧ (1 ≤ d ∧ d ≤ 768000) ∧ (-4096 ≤ a ∧ a ≤ 4096) ∧ (0 ≤ p ∧ p ≤ 1125899906842624) ∧ 0 ≤ f ∧ f < d * 65536 := hv.b
  have hst : 61440 ≤ stp n a ∧ stp n a ≤ 53477376000 := stp_in hv.b.1 hv.b.2.2.1
  refine Fun.mk (n := 35) Try.func37 rfl rfl (Nat.le_of_ble_eq_true rfl) ?_
  intro cx hcx
  refine AW.rgs [.no, .no, .no, .no] [1, 2] [0] (P := True) (l' := [(1, iV x), (2, rV 0 0)]) (g' := [(0, some (25, .ds [iD n, iD d, iD a, iD p, iD f]))]) (nx' := 1) (by kernel_rfl) trivial ?_
  refine AW.seq ?_
  refine AW.rgs [.no, .call [] (bV true) [] 0 [] none, .no] [1, 2, 10] [0] (P := (Fun 48 [.agg [iC n, iC d, iC a, iC p, iC f]] (toG []) 0 (bV true) (toG []) 0)) (l' := [(1, iV x), (2, rV 0 0), (10, bV false)]) (g' := [(0, some (25, .ds [iD n, iD d, iD a, iD p, iD f]))]) (nx' := 1) (by kernel_rfl) (by have h0 := (P_rValid n d a p f); rw [hok] at h0; exact h0) ?_
  refine AW.cond_f (.tmp (Look.of rfl)) ?_
  refine AW.skip ?_
  refine AW.seq ?_
  by_cases hx1 : (x < 0)
  · refine AW.rgs [.no, .b true, .no, .no] [1, 2, 16] [0] (P := ((x < 0))) (l' := [(1, iV x), (2, rV 0 0), (16, bV true)]) (g' := [(0, some (25, .ds [iD n, iD d, iD a, iD p, iD f]))]) (nx' := 1) (by kernel_rfl) (by omega) ?_
    refine AW.cond_t (.tmp (Look.of rfl)) ?_
    refine AW.rgs [.no, .no, .no] [4, 5, 6] [] (P := True) (l' := [(4, iV 0), (5, iV 0), (6, iV 2)]) (g' := []) (nx' := 1) (by kernel_rfl) trivial ?_
    refine AW.ret ?_
    exact EndP.of (.inr rfl) [] (P := ((0 : Int) = 0) ∧ ((0 : Int) = 0) ∧ ((2 : Int) = 2)) (by kernel_rfl) ⟨rfl, rfl, rfl⟩
  · refine AW.rgs [.no, .b false, .no, .no, .b true, .no] [1, 2, 16] [0] (P := (¬ (x < 0)) ∧ (((65536 : Int) < x))) (l' := [(1, iV x), (2, rV 0 0), (16, bV true)]) (g' := [(0, some (25, .ds [iD n, iD d, iD a, iD p, iD f]))]) (nx' := 1) (by kernel_rfl) ⟨(by omega), (by omega)⟩ ?_
    refine AW.cond_t (.tmp (Look.of rfl)) ?_
    refine AW.rgs [.no, .no, .no] [4, 5, 6] [] (P := True) (l' := [(4, iV 0), (5, iV 0), (6, iV 2)]) (g' := []) (nx' := 1) (by kernel_rfl) trivial ?_
    refine AW.ret ?_
    exact EndP.of (.inr rfl) [] (P := ((0 : Int) = 0) ∧ ((0 : Int) = 0) ∧ ((2 : Int) = 2)) (by kernel_rfl) ⟨rfl, rfl, rfl⟩

set_option maxHeartbeats 4000000 in
set_option maxRecDepth 100000 in
theorem P_Need_no (n d a p f : Int) (x : Int) (hv : PhV n d a p f) (hx : x < 0 ∨ 65536 < x) : Fun 53 [.agg [iC n, iC d, iC a, iC p, iC f], iE x] (toG []) 0 (.tup [iE 0, iE 2]) (toG []) 0 := by
  have hok : phB n d a p f = true := hv.ok
  have hbd : (1 ≤ n ∧ n ≤ 768000) ∧ (1 ≤ d ∧ d ≤ 768000) ∧ (-4096 ≤ a ∧ a ≤ 4096) ∧ (0 ≤ p ∧ p ≤ 1125899906842624) ∧ 0 ≤ f ∧ f < d * 65536 := hv.b
  have hst : 61440 ≤ stp n a ∧ stp n a ≤ 53477376000 := stp_in hv.b.1 hv.b.2.2.1
  refine Fun.mk (n := 16) Try.func53 rfl rfl (Nat.le_of_ble_eq_true rfl) ?_
  intro cx hcx
  refine AW.rgs [.no, .no, .no] [1, 2] [0] (P := True) (l' := [(1, iV x), (2, rV 0 0)]) (g' := [(0, some (25, .ds [iD n, iD d, iD a, iD p, iD f]))]) (nx' := 1) (by kernel_rfl) trivial ?_
  refine AW.seq ?_
  refine AW.rgs [.no, .no, .call [] (iV 2) [] 0 [] none, .no] [1, 2, 6] [0] (P := (_)) (l' := [(1, iV x), (2, rV 0 0), (6, iV 2)]) (g' := [(0, some (25, .ds [iD n, iD d, iD a, iD p, iD f]))]) (nx' := 1) (by kernel_rfl) (P_check_no n d a p f x 65536 (by first | omega | with_reducible assumption | (simp <;> omega) | rfl | assumption) (by first | omega | with_reducible assumption | (simp <;> omega) | rfl | assumption)) ?_
  refine AW.rgs [.no, .b true] [1, 2, 6, 11] [0] (P := (((2 : Int) ≠ 0))) (l' := [(1, iV x), (2, rV 0 0), (6, iV 2), (11, bV true)]) (g' := [(0, some (25, .ds [iD n, iD d, iD a, iD p, iD f]))]) (nx' := 1) (by kernel_rfl) (by omega) ?_
  refine AW.cond_t (.tmp (Look.of rfl)) ?_
  refine AW.rgs [.no, .no, .no] [4, 5] [] (P := True) (l' := [(4, iV 0), (5, iV 2)]) (g' := []) (nx' := 1) (by kernel_rfl) trivial ?_
  refine AW.ret ?_
  exact EndP.of (.inr rfl) [] (P := ((0 : Int) = 0) ∧ ((2 : Int) = 2)) (by kernel_rfl) ⟨rfl, rfl⟩

set_option maxHeartbeats 4000000 in
set_option maxRecDepth 100000 in
theorem P_rNeed_no (n d a p f : Int) (x : Int) (hv : PhV n d a p f) (hx : x < 0 ∨ 65536 < x) : Fun 55 [.agg [iC n, iC d, iC a, iC p, iC f], iE x] (toG []) 0 (.tup [iE 0, iE 2]) (toG []) 0 := by
  have hok : phB n d a p f = true := hv.ok
  have hbd : (1 ≤ n ∧ n ≤ 768000) ∧ (1 ≤ d ∧ d ≤ 768000) ∧ (-4096 ≤ a ∧ a ≤ 4096) ∧ (0 ≤ p ∧ p ≤ 1125899906842624) ∧ 0 ≤ f ∧ f < d * 65536 := hv.b
  have hst : 61440 ≤ stp n a ∧ stp n a ≤ 53477376000 := stp_in hv.b.1 hv.b.2.2.1
  refine Fun.mk (n := 39) Try.func55 rfl rfl (Nat.le_of_ble_eq_true rfl) ?_
  intro cx hcx
  refine AW.rgs [.no, .no, .no] [1, 2] [0] (P := True) (l' := [(1, iV x), (2, rV 0 0)]) (g' := [(0, some (25, .ds [iD n, iD d, iD a, iD p, iD f]))]) (nx' := 1) (by kernel_rfl) trivial ?_
  refine AW.rgs [.no, .no, .call [] (.tup [iE 0, iE 0, iE 2]) [] 0 [] none, .no, .no, .no, .no, .no, .no, .no] [1, 2, 6, 8] [0] (P := (_)) (l' := [(1, iV x), (2, rV 0 0), (6, iV 0), (8, iV 2)]) (g' := [(0, some (25, .ds [iD n, iD d, iD a, iD p, iD f]))]) (nx' := 1) (by kernel_rfl) (P_rAt_no n d a p f x (by first | omega | with_reducible assumption | (simp <;> omega) | rfl | assumption) (by first | omega | with_reducible assumption | (simp <;> omega) | rfl | assumption)) ?_
  refine AW.seq ?_
  refine AW.rgs [.no, .b true] [1, 2, 6, 8, 20] [0] (P := (((2 : Int) ≠ 0))) (l' := [(1, iV x), (2, rV 0 0), (6, iV 0), (8, iV 2), (20, bV true)]) (g' := [(0, some (25, .ds [iD n, iD d, iD a, iD p, iD f]))]) (nx' := 1) (by kernel_rfl) (by omega) ?_
  refine AW.cond_t (.tmp (Look.of rfl)) ?_
  refine AW.rgs [.no, .no, .no] [4, 5] [] (P := True) (l' := [(4, iV 0), (5, iV 2)]) (g' := []) (nx' := 1) (by kernel_rfl) trivial ?_
  refine AW.ret ?_
  exact EndP.of (.inr rfl) [] (P := ((0 : Int) = 0) ∧ ((2 : Int) = 2)) (by kernel_rfl) ⟨rfl, rfl⟩

set_option maxHeartbeats 4000000 in
set_option maxRecDepth 100000 in
theorem P_Advance_no (n d a p f : Int) (i : Nat) (hv : PhV n d a p f) (hi : i ≤ 65536) (hb : 1125899906842624 < p + (mvV f (stp n a) i / (d * 65536))) : Fun 74 [.agg [iC n, iC d, iC a, iC p, iC f], iE ((i : Nat) : Int)] (toG []) 0 (.tup [.agg [iC 0, iC 0, iC 0, iC 0, iC 0], iE 2]) (toG []) 0 := by
  refine Fun.mk (n := 28) Try.func74 rfl rfl (Nat.le_of_ble_eq_true rfl) ?_
  intro cx hcx
  refine AW.rgs [.no, .no, .no] [1, 2, 4] [0, 1] (P := True) (l' := [(1, iV ↑i), (2, rV 0 0), (4, rV 1 0)]) (g' := [(0, some (25, .ds [iD n, iD d, iD a, iD p, iD f])), (1, some (25, .ds [iD 0, iD 0, iD 0, iD 0, iD 0]))]) (nx' := 2) (by kernel_rfl) trivial ?_
  have hx1 : (((0 : Int) ≤ ((mvV f (stp n a) i) / (d * 65536))) ∧ ((((mvV f (stp n a) i) / (d * 65536)) ≤ 3600000000000000) ∧ (((0 : Int) ≤ ((mvV f (stp n a) i) % (d * 65536))) ∧ (((mvV f (stp n a) i) % (d * 65536)) < (d * 65536))))) := (by have h9 := PhV.b (show PhV n d a p f by assumption); have h8 := stp_in h9.1 h9.2.2.1; have h7 := @mv_in f (stp n a) i (show 0 ≤ f ∧ f < 50331648000 by omega) (show 0 ≤ stp n a ∧ stp n a ≤ 53477376000 by omega) (by omega); have h6 := quo_in h7.1 (show 0 < d * 65536 by omega); omega)
  refine AW.rgs [.no, .no, .call [] (.tup [iE (p + ((mvV f (stp n a) i) / (d * 65536))), iE ((mvV f (stp n a) i) % (d * 65536)), iE 0]) [] 0 [] none, .no, .no, .no, .no, .no, .no, .no] [2, 4, 6, 7, 8] [0, 1] (P := (_)) (l' := [(2, rV 0 0), (4, rV 1 0), (6, iV (p + ((mvV f (stp n a) i) / (d * 65536)))), (7, iV ((mvV f (stp n a) i) % (d * 65536))), (8, iV 0)]) (g' := [(0, some (25, .ds [iD n, iD d, iD a, iD p, iD f])), (1, some (25, .ds [iD 0, iD 0, iD 0, iD 0, iD 0]))]) (nx' := 2) (by kernel_rfl) (P_At n d a p f i (by first | omega | with_reducible assumption | (simp <;> omega) | rfl | assumption) (by omega)) ?_
  refine AW.seq ?_
  refine AW.rgs [.no, .b false] [2, 4, 6, 7, 8, 17] [0, 1] (P := (¬ ((0 : Int) ≠ 0))) (l' := [(2, rV 0 0), (4, rV 1 0), (6, iV (p + ((mvV f (stp n a) i) / (d * 65536)))), (7, iV ((mvV f (stp n a) i) % (d * 65536))), (8, iV 0), (17, bV false)]) (g' := [(0, some (25, .ds [iD n, iD d, iD a, iD p, iD f])), (1, some (25, .ds [iD 0, iD 0, iD 0, iD 0, iD 0]))]) (nx' := 2) (by kernel_rfl) (by omega) ?_
  refine AW.cond_f (.tmp (Look.of rfl)) ?_
  refine AW.skip ?_
  refine AW.seq ?_
  refine AW.rgs [.no, .b true] [2, 4, 6, 7, 21] [0, 1] (P := (((1125899906842624 : Int) < (p + ((mvV f (stp n a) i) / (d * 65536)))))) (l' := [(2, rV 0 0), (4, rV 1 0), (6, iV (p + ((mvV f (stp n a) i) / (d * 65536)))), (7, iV ((mvV f (stp n a) i) % (d * 65536))), (21, bV true)]) (g' := [(0, some (25, .ds [iD n, iD d, iD a, iD p, iD f])), (1, some (25, .ds [iD 0, iD 0, iD 0, iD 0, iD 0]))]) (nx' := 2) (by kernel_rfl) (by omega) ?_
  refine AW.cond_t (.tmp (Look.of rfl)) ?_
  refine AW.rgs [.no, .no, .no] [4, 5] [1] (P := True) (l' := [(4, rV 1 0), (5, iV 2)]) (g' := [(1, some (25, .ds [iD 0, iD 0, iD 0, iD 0, iD 0]))]) (nx' := 2) (by kernel_rfl) trivial ?_
  refine AW.ret ?_
  exact EndP.of (.inr rfl) [] (P := ((0 : Int) = 0) ∧ ((0 : Int) = 0) ∧ ((0 : Int) = 0) ∧ ((0 : Int) = 0) ∧ ((0 : Int) = 0) ∧ ((2 : Int) = 2)) (by kernel_rfl) ⟨rfl, rfl, rfl, rfl, rfl, rfl⟩

set_option maxHeartbeats 4000000 in
set_option maxRecDepth 100000 in
theorem P_rAdvance_no (n d a p f : Int) (i : Nat) (hv : PhV n d a p f) (hi : i ≤ 65536) (hb : 1125899906842624 < p + (mvV f (stp n a) i / (d * 65536))) : Fun 77 [.agg [iC n, iC d, iC a, iC p, iC f], iE ((i : Nat) : Int)] (toG []) 0 (.tup [.agg [iC 0, iC 0, iC 0, iC 0, iC 0], iE 2]) (toG []) 0 := by
  refine Fun.mk (n := 28) Try.func77 rfl rfl (Nat.le_of_ble_eq_true rfl) ?_
  intro cx hcx
  refine AW.rgs [.no, .no, .no] [1, 2, 4] [0, 1] (P := True) (l' := [(1, iV ↑i), (2, rV 0 0), (4, rV 1 0)]) (g' := [(0, some (25, .ds [iD n, iD d, iD a, iD p, iD f])), (1, some (25, .ds [iD 0, iD 0, iD 0, iD 0, iD 0]))]) (nx' := 2) (by kernel_rfl) trivial ?_
  have hx1 : (((0 : Int) ≤ ((mvV f (stp n a) i) / (d * 65536))) ∧ ((((mvV f (stp n a) i) / (d * 65536)) ≤ 3600000000000000) ∧ (((0 : Int) ≤ ((mvV f (stp n a) i) % (d * 65536))) ∧ (((mvV f (stp n a) i) % (d * 65536)) < (d * 65536))))) := (by have h9 := PhV.b (show PhV n d a p f by assumption); have h8 := stp_in h9.1 h9.2.2.1; have h7 := @mv_in f (stp n a) i (show 0 ≤ f ∧ f < 50331648000 by omega) (show 0 ≤ stp n a ∧ stp n a ≤ 53477376000 by omega) (by omega); have h6 := quo_in h7.1 (show 0 < d * 65536 by omega); omega)
  refine AW.rgs [.no, .no, .call [] (.tup [iE (p + ((mvV f (stp n a) i) / (d * 65536))), iE ((mvV f (stp n a) i) % (d * 65536)), iE 0]) [] 0 [] none, .no, .no, .no, .no, .no, .no, .no] [2, 4, 6, 7, 8] [0, 1] (P := (_)) (l' := [(2, rV 0 0), (4, rV 1 0), (6, iV (p + ((mvV f (stp n a) i) / (d * 65536)))), (7, iV ((mvV f (stp n a) i) % (d * 65536))), (8, iV 0)]) (g' := [(0, some (25, .ds [iD n, iD d, iD a, iD p, iD f])), (1, some (25, .ds [iD 0, iD 0, iD 0, iD 0, iD 0]))]) (nx' := 2) (by kernel_rfl) (P_rAt n d a p f i (by first | omega | with_reducible assumption | (simp <;> omega) | rfl | assumption) (by omega)) ?_
  refine AW.seq ?_
  refine AW.rgs [.no, .b false] [2, 4, 6, 7, 8, 17] [0, 1] (P := (¬ ((0 : Int) ≠ 0))) (l' := [(2, rV 0 0), (4, rV 1 0), (6, iV (p + ((mvV f (stp n a) i) / (d * 65536)))), (7, iV ((mvV f (stp n a) i) % (d * 65536))), (8, iV 0), (17, bV false)]) (g' := [(0, some (25, .ds [iD n, iD d, iD a, iD p, iD f])), (1, some (25, .ds [iD 0, iD 0, iD 0, iD 0, iD 0]))]) (nx' := 2) (by kernel_rfl) (by omega) ?_
  refine AW.cond_f (.tmp (Look.of rfl)) ?_
  refine AW.skip ?_
  refine AW.seq ?_
  refine AW.rgs [.no, .b true] [2, 4, 6, 7, 21] [0, 1] (P := (((1125899906842624 : Int) < (p + ((mvV f (stp n a) i) / (d * 65536)))))) (l' := [(2, rV 0 0), (4, rV 1 0), (6, iV (p + ((mvV f (stp n a) i) / (d * 65536)))), (7, iV ((mvV f (stp n a) i) % (d * 65536))), (21, bV true)]) (g' := [(0, some (25, .ds [iD n, iD d, iD a, iD p, iD f])), (1, some (25, .ds [iD 0, iD 0, iD 0, iD 0, iD 0]))]) (nx' := 2) (by kernel_rfl) (by omega) ?_
  refine AW.cond_t (.tmp (Look.of rfl)) ?_
  refine AW.rgs [.no, .no, .no] [4, 5] [1] (P := True) (l' := [(4, rV 1 0), (5, iV 2)]) (g' := [(1, some (25, .ds [iD 0, iD 0, iD 0, iD 0, iD 0]))]) (nx' := 2) (by kernel_rfl) trivial ?_
  refine AW.ret ?_
  exact EndP.of (.inr rfl) [] (P := ((0 : Int) = 0) ∧ ((0 : Int) = 0) ∧ ((0 : Int) = 0) ∧ ((0 : Int) = 0) ∧ ((0 : Int) = 0) ∧ ((2 : Int) = 2)) (by kernel_rfl) ⟨rfl, rfl, rfl, rfl, rfl, rfl⟩

set_option maxHeartbeats 4000000 in
set_option maxRecDepth 100000 in
theorem Q_check_E1 (ch n d a p f : Int) (l : List Int) (q : Nat) (x : Int) (hq : List.length l = q) (hm : q ≤ 100000000000000) (hF : (phB n d a p f && okB ch l) = false) : Fun 52 [.agg [iC ch, iC n, iC d, iC a, iC p, iC f, .d (D.sl (dI .i32 l) q)], iE x] (toG []) 0 (iV 1) (toG []) 0 := by
  refine Fun.mk (n := 14) Try.func52 rfl rfl (Nat.le_of_ble_eq_true rfl) ?_
  intro cx hcx
  refine AW.rgs [.no, .no] [1, 2] [0] (P := True) (l' := [(1, iV x), (2, rV 0 0)]) (g' := [(0, some (28, .ds [iD ch, iD n, iD d, iD a, iD p, iD f, D.sl (dI .i32 l) q]))]) (nx' := 1) (by kernel_rfl) trivial ?_
  refine AW.seq ?_
  refine AW.rgs [.no, .call [] (bV false) [] 0 [] none, .no] [1, 7] [] (P := (Fun 19 [.agg [iC ch, iC n, iC d, iC a, iC p, iC f, .d (D.sl (dI .i32 l) q)]] (toG []) 0 (bV false) (toG []) 0)) (l' := [(1, iV x), (7, bV true)]) (g' := []) (nx' := 1) (by kernel_rfl) (by have h0 := (Q_Valid ch n d a p f l q (by omega) (by omega)); rw [hF] at h0; exact h0) ?_
  refine AW.cond_t (.tmp (Look.of rfl)) ?_
  refine AW.rgs [.no] [4] [] (P := True) (l' := [(4, iV 1)]) (g' := []) (nx' := 1) (by kernel_rfl) trivial ?_
  refine AW.ret ?_
  exact EndP.of (.inr rfl) [] (P := ((1 : Int) = 1)) (by kernel_rfl) rfl

set_option maxHeartbeats 4000000 in
set_option maxRecDepth 100000 in
theorem Q_TakeE1 (ch n d a p f : Int) (l : List Int) (q : Nat) (x : Int) (hq : List.length l = q) (hm : q ≤ 100000000000000) (hF : (phB n d a p f && okB ch l) = false) : Fun 25 [.agg [iC ch, iC n, iC d, iC a, iC p, iC f, .d (D.sl (dI .i32 l) q)], iE x] (toG []) 0 (.tup [.agg [iC 0, .d (D.lit (.slice none 0 0))], .agg [iC 0, iC 0, iC 0, iC 0, iC 0, iC 0, .d (D.lit (.slice none 0 0))], iE 1]) (toG []) 0 := by
  refine Fun.mk (n := 37) Try.func25 rfl rfl (Nat.le_of_ble_eq_true rfl) ?_
  intro cx hcx
  refine AW.rgs [.no, .no, .no, .no] [1, 2, 4, 5] [0, 1, 2] (P := True) (l' := [(1, iV x), (2, rV 0 0), (4, rV 1 0), (5, rV 2 0)]) (g' := [(0, some (28, .ds [iD ch, iD n, iD d, iD a, iD p, iD f, D.sl (dI .i32 l) q])), (1, some (30, .ds [iD 0, D.lit (.slice none 0 0)])), (2, some (28, .ds [iD 0, iD 0, iD 0, iD 0, iD 0, iD 0, D.lit (.slice none 0 0)]))]) (nx' := 3) (by kernel_rfl) trivial ?_
  refine AW.seq ?_
  refine AW.rgs [.no, .no, .call [] (iV 1) [] 0 [] none, .no] [1, 2, 4, 5, 7] [0, 1, 2] (P := (_)) (l' := [(1, iV x), (2, rV 0 0), (4, rV 1 0), (5, rV 2 0), (7, iV 1)]) (g' := [(0, some (28, .ds [iD ch, iD n, iD d, iD a, iD p, iD f, D.sl (dI .i32 l) q])), (1, some (30, .ds [iD 0, D.lit (.slice none 0 0)])), (2, some (28, .ds [iD 0, iD 0, iD 0, iD 0, iD 0, iD 0, D.lit (.slice none 0 0)]))]) (nx' := 3) (by kernel_rfl) (Q_check_E1 ch n d a p f l q x (by omega) (by omega) hF) ?_
  refine AW.rgs [.no, .b true] [1, 2, 4, 5, 7, 14] [0, 1, 2] (P := (((1 : Int) ≠ 0))) (l' := [(1, iV x), (2, rV 0 0), (4, rV 1 0), (5, rV 2 0), (7, iV 1), (14, bV true)]) (g' := [(0, some (28, .ds [iD ch, iD n, iD d, iD a, iD p, iD f, D.sl (dI .i32 l) q])), (1, some (30, .ds [iD 0, D.lit (.slice none 0 0)])), (2, some (28, .ds [iD 0, iD 0, iD 0, iD 0, iD 0, iD 0, D.lit (.slice none 0 0)]))]) (nx' := 3) (by kernel_rfl) (by omega) ?_
  refine AW.cond_t (.tmp (Look.of rfl)) ?_
  refine AW.rgs [.no, .no, .no, .no, .no, .no] [4, 5, 6] [1, 2] (P := True) (l' := [(4, rV 1 0), (5, rV 2 0), (6, iV 1)]) (g' := [(1, some (30, .ds [iD 0, D.lit (.slice none 0 0)])), (2, some (28, .ds [iD 0, iD 0, iD 0, iD 0, iD 0, iD 0, D.lit (.slice none 0 0)]))]) (nx' := 3) (by kernel_rfl) trivial ?_
  refine AW.ret ?_
  exact EndP.of (.inr rfl) [] (P := ((0 : Int) = 0) ∧ ((.slice none 0 0 : Value) = .slice none 0 0) ∧ ((0 : Int) = 0) ∧ ((0 : Int) = 0) ∧ ((0 : Int) = 0) ∧ ((0 : Int) = 0) ∧ ((0 : Int) = 0) ∧ ((0 : Int) = 0) ∧ ((.slice none 0 0 : Value) = .slice none 0 0) ∧ ((1 : Int) = 1)) (by kernel_rfl) ⟨rfl, rfl, rfl, rfl, rfl, rfl, rfl, rfl, rfl, rfl⟩

set_option maxHeartbeats 4000000 in
set_option maxRecDepth 100000 in
theorem Q_rTakeE1 (ch n d a p f : Int) (l : List Int) (q : Nat) (x : Int) (hq : List.length l = q) (hm : q ≤ 100000000000000) (hF : (phB n d a p f && okB ch l) = false) : Fun 26 [.agg [iC ch, iC n, iC d, iC a, iC p, iC f, .d (D.sl (dI .i32 l) q)], iE x] (toG []) 0 (.tup [.agg [iC 0, .d (D.lit (.slice none 0 0))], .agg [iC 0, iC 0, iC 0, iC 0, iC 0, iC 0, .d (D.lit (.slice none 0 0))], iE 1]) (toG []) 0 := by
  refine Fun.mk (n := 48) Try.func26 rfl rfl (Nat.le_of_ble_eq_true rfl) ?_
  intro cx hcx
  refine AW.rgs [.no, .no, .no, .no] [1, 2, 4, 5] [0, 1, 2] (P := True) (l' := [(1, iV x), (2, rV 0 0), (4, rV 1 0), (5, rV 2 0)]) (g' := [(0, some (28, .ds [iD ch, iD n, iD d, iD a, iD p, iD f, D.sl (dI .i32 l) q])), (1, some (30, .ds [iD 0, D.lit (.slice none 0 0)])), (2, some (28, .ds [iD 0, iD 0, iD 0, iD 0, iD 0, iD 0, D.lit (.slice none 0 0)]))]) (nx' := 3) (by kernel_rfl) trivial ?_
  refine AW.seq ?_
  refine AW.rgs [.no, .call [] (bV false) [] 0 [] none, .no] [1, 2, 4, 5, 12] [0, 1, 2] (P := (Fun 20 [.agg [iC ch, iC n, iC d, iC a, iC p, iC f, .d (D.sl (dI .i32 l) q)]] (toG []) 0 (bV false) (toG []) 0)) (l' := [(1, iV x), (2, rV 0 0), (4, rV 1 0), (5, rV 2 0), (12, bV true)]) (g' := [(0, some (28, .ds [iD ch, iD n, iD d, iD a, iD p, iD f, D.sl (dI .i32 l) q])), (1, some (30, .ds [iD 0, D.lit (.slice none 0 0)])), (2, some (28, .ds [iD 0, iD 0, iD 0, iD 0, iD 0, iD 0, D.lit (.slice none 0 0)]))]) (nx' := 3) (by kernel_rfl) (by have h0 := (Q_rValid ch n d a p f l q (by omega) (by omega)); rw [hF] at h0; exact h0) ?_
  refine AW.cond_t (.tmp (Look.of rfl)) ?_
  refine AW.rgs [.no, .no, .no, .no, .no] [4, 5, 6] [1, 2] (P := True) (l' := [(4, rV 1 0), (5, rV 2 0), (6, iV 1)]) (g' := [(1, some (30, .ds [iD 0, D.lit (.slice none 0 0)])), (2, some (28, .ds [iD 0, iD 0, iD 0, iD 0, iD 0, iD 0, D.lit (.slice none 0 0)]))]) (nx' := 3) (by kernel_rfl) trivial ?_
  refine AW.ret ?_
  exact EndP.of (.inr rfl) [] (P := ((0 : Int) = 0) ∧ ((.slice none 0 0 : Value) = .slice none 0 0) ∧ ((0 : Int) = 0) ∧ ((0 : Int) = 0) ∧ ((0 : Int) = 0) ∧ ((0 : Int) = 0) ∧ ((0 : Int) = 0) ∧ ((0 : Int) = 0) ∧ ((.slice none 0 0 : Value) = .slice none 0 0) ∧ ((1 : Int) = 1)) (by kernel_rfl) ⟨rfl, rfl, rfl, rfl, rfl, rfl, rfl, rfl, rfl, rfl⟩

set_option maxHeartbeats 4000000 in
set_option maxRecDepth 100000 in
theorem Q_FinishE1 (ch n d a p f : Int) (l : List Int) (q : Nat) (x : Int) (hq : List.length l = q) (hm : q ≤ 100000000000000) (hF : (phB n d a p f && okB ch l) = false) : Fun 27 [.agg [iC ch, iC n, iC d, iC a, iC p, iC f, .d (D.sl (dI .i32 l) q)], iE x] (toG []) 0 (.tup [.agg [iC 0, .d (D.lit (.slice none 0 0))], .agg [iC 0, iC 0, iC 0, iC 0, iC 0, iC 0, .d (D.lit (.slice none 0 0))], iE 1]) (toG []) 0 := by
  refine Fun.mk (n := 24) Try.func27 rfl rfl (Nat.le_of_ble_eq_true rfl) ?_
  intro cx hcx
  refine AW.rgs [.no, .no, .no, .no] [1, 2, 4, 5] [0, 1, 2] (P := True) (l' := [(1, iV x), (2, rV 0 0), (4, rV 1 0), (5, rV 2 0)]) (g' := [(0, some (28, .ds [iD ch, iD n, iD d, iD a, iD p, iD f, D.sl (dI .i32 l) q])), (1, some (30, .ds [iD 0, D.lit (.slice none 0 0)])), (2, some (28, .ds [iD 0, iD 0, iD 0, iD 0, iD 0, iD 0, D.lit (.slice none 0 0)]))]) (nx' := 3) (by kernel_rfl) trivial ?_
  refine AW.seq ?_
  refine AW.rgs [.no, .no, .call [] (iV 1) [] 0 [] none, .no] [1, 2, 4, 5, 7] [0, 1, 2] (P := (_)) (l' := [(1, iV x), (2, rV 0 0), (4, rV 1 0), (5, rV 2 0), (7, iV 1)]) (g' := [(0, some (28, .ds [iD ch, iD n, iD d, iD a, iD p, iD f, D.sl (dI .i32 l) q])), (1, some (30, .ds [iD 0, D.lit (.slice none 0 0)])), (2, some (28, .ds [iD 0, iD 0, iD 0, iD 0, iD 0, iD 0, D.lit (.slice none 0 0)]))]) (nx' := 3) (by kernel_rfl) (Q_check_E1 ch n d a p f l q x (by omega) (by omega) hF) ?_
  refine AW.rgs [.no, .b true] [1, 2, 4, 5, 7, 12] [0, 1, 2] (P := (((1 : Int) ≠ 0))) (l' := [(1, iV x), (2, rV 0 0), (4, rV 1 0), (5, rV 2 0), (7, iV 1), (12, bV true)]) (g' := [(0, some (28, .ds [iD ch, iD n, iD d, iD a, iD p, iD f, D.sl (dI .i32 l) q])), (1, some (30, .ds [iD 0, D.lit (.slice none 0 0)])), (2, some (28, .ds [iD 0, iD 0, iD 0, iD 0, iD 0, iD 0, D.lit (.slice none 0 0)]))]) (nx' := 3) (by kernel_rfl) (by omega) ?_
  refine AW.cond_t (.tmp (Look.of rfl)) ?_
  refine AW.rgs [.no, .no, .no, .no, .no, .no] [4, 5, 6] [1, 2] (P := True) (l' := [(4, rV 1 0), (5, rV 2 0), (6, iV 1)]) (g' := [(1, some (30, .ds [iD 0, D.lit (.slice none 0 0)])), (2, some (28, .ds [iD 0, iD 0, iD 0, iD 0, iD 0, iD 0, D.lit (.slice none 0 0)]))]) (nx' := 3) (by kernel_rfl) trivial ?_
  refine AW.ret ?_
  exact EndP.of (.inr rfl) [] (P := ((0 : Int) = 0) ∧ ((.slice none 0 0 : Value) = .slice none 0 0) ∧ ((0 : Int) = 0) ∧ ((0 : Int) = 0) ∧ ((0 : Int) = 0) ∧ ((0 : Int) = 0) ∧ ((0 : Int) = 0) ∧ ((0 : Int) = 0) ∧ ((.slice none 0 0 : Value) = .slice none 0 0) ∧ ((1 : Int) = 1)) (by kernel_rfl) ⟨rfl, rfl, rfl, rfl, rfl, rfl, rfl, rfl, rfl, rfl⟩

set_option maxHeartbeats 4000000 in
set_option maxRecDepth 100000 in
theorem Q_rFinishE1 (ch n d a p f : Int) (l : List Int) (q : Nat) (x : Int) (hq : List.length l = q) (hm : q ≤ 100000000000000) (hF : (phB n d a p f && okB ch l) = false) : Fun 28 [.agg [iC ch, iC n, iC d, iC a, iC p, iC f, .d (D.sl (dI .i32 l) q)], iE x] (toG []) 0 (.tup [.agg [iC 0, .d (D.lit (.slice none 0 0))], .agg [iC 0, iC 0, iC 0, iC 0, iC 0, iC 0, .d (D.lit (.slice none 0 0))], iE 1]) (toG []) 0 := by
  refine Fun.mk (n := 64) Try.func28 rfl rfl (Nat.le_of_ble_eq_true rfl) ?_
  intro cx hcx
  refine AW.rgs [.no, .no, .no, .no] [1, 2, 4, 5] [0, 1, 2] (P := True) (l' := [(1, iV x), (2, rV 0 0), (4, rV 1 0), (5, rV 2 0)]) (g' := [(0, some (28, .ds [iD ch, iD n, iD d, iD a, iD p, iD f, D.sl (dI .i32 l) q])), (1, some (30, .ds [iD 0, D.lit (.slice none 0 0)])), (2, some (28, .ds [iD 0, iD 0, iD 0, iD 0, iD 0, iD 0, D.lit (.slice none 0 0)]))]) (nx' := 3) (by kernel_rfl) trivial ?_
  refine AW.seq ?_
  refine AW.rgs [.no, .call [] (bV false) [] 0 [] none, .no] [1, 2, 4, 5, 16] [0, 1, 2] (P := (Fun 20 [.agg [iC ch, iC n, iC d, iC a, iC p, iC f, .d (D.sl (dI .i32 l) q)]] (toG []) 0 (bV false) (toG []) 0)) (l' := [(1, iV x), (2, rV 0 0), (4, rV 1 0), (5, rV 2 0), (16, bV true)]) (g' := [(0, some (28, .ds [iD ch, iD n, iD d, iD a, iD p, iD f, D.sl (dI .i32 l) q])), (1, some (30, .ds [iD 0, D.lit (.slice none 0 0)])), (2, some (28, .ds [iD 0, iD 0, iD 0, iD 0, iD 0, iD 0, D.lit (.slice none 0 0)]))]) (nx' := 3) (by kernel_rfl) (by have h0 := (Q_rValid ch n d a p f l q (by omega) (by omega)); rw [hF] at h0; exact h0) ?_
  refine AW.cond_t (.tmp (Look.of rfl)) ?_
  refine AW.rgs [.no, .no, .no, .no, .no] [4, 5, 6] [1, 2] (P := True) (l' := [(4, rV 1 0), (5, rV 2 0), (6, iV 1)]) (g' := [(1, some (30, .ds [iD 0, D.lit (.slice none 0 0)])), (2, some (28, .ds [iD 0, iD 0, iD 0, iD 0, iD 0, iD 0, D.lit (.slice none 0 0)]))]) (nx' := 3) (by kernel_rfl) trivial ?_
  refine AW.ret ?_
  exact EndP.of (.inr rfl) [] (P := ((0 : Int) = 0) ∧ ((.slice none 0 0 : Value) = .slice none 0 0) ∧ ((0 : Int) = 0) ∧ ((0 : Int) = 0) ∧ ((0 : Int) = 0) ∧ ((0 : Int) = 0) ∧ ((0 : Int) = 0) ∧ ((0 : Int) = 0) ∧ ((.slice none 0 0 : Value) = .slice none 0 0) ∧ ((1 : Int) = 1)) (by kernel_rfl) ⟨rfl, rfl, rfl, rfl, rfl, rfl, rfl, rfl, rfl, rfl⟩

set_option maxHeartbeats 4000000 in
set_option maxRecDepth 100000 in
theorem Q_check_E2 (ch W : Nat) (n d a p f : Int) (l : List Int) (q : Nat) (x : Int) (hq : List.length l = q) (hv : BV ch W l) (hp : PhV n d a p f) (hx : x < 0 ∨ 65536 < x) : Fun 52 [.agg [iC ((ch : Nat) : Int), iC n, iC d, iC a, iC p, iC f, .d (D.sl (dI .i32 l) q)], iE x] (toG []) 0 (iV 2) (toG []) 0 := by
  have hok : phB n d a p f = true := hp.ok
  have hob : okB ((ch : Nat) : Int) l = true := hv.ok
  have hbd : (1 ≤ n ∧ n ≤ 768000) ∧ (1 ≤ d ∧ d ≤ 768000) ∧ (-4096 ≤ a ∧ a ≤ 4096) ∧ (0 ≤ p ∧ p ≤ 1125899906842624) ∧ 0 ≤ f ∧ f < d * 65536 := hp.b
  have hst : 61440 ≤ stp n a ∧ stp n a ≤ 53477376000 := stp_in hp.b.1 hp.b.2.2.1
  have hc1 : 1 ≤ ch := hv.c1
  have hc8 : ch ≤ 8 := hv.c8
  have hlq : q = W * ch := hq.symm.trans hv.len
  have hbig : W * ch ≤ 524288 := hv.big
  have hfit : W ≤ 65536 := hv.fit
  have hqW : (q : Int) / (ch : Int) = W := by rw [hlq]; exact hv.quo
  have hvd : (phB n d a p f && okB ((ch : Nat) : Int) l) = true := by rw [hok, hob]; rfl
  refine Fun.mk (n := 14) Try.func52 rfl rfl (Nat.le_of_ble_eq_true rfl) ?_
  intro cx hcx
  refine AW.rgs [.no, .no] [1, 2] [0] (P := True) (l' := [(1, iV x), (2, rV 0 0)]) (g' := [(0, some (28, .ds [iD ↑ch, iD n, iD d, iD a, iD p, iD f, D.sl (dI .i32 l) q]))]) (nx' := 1) (by kernel_rfl) trivial ?_
  refine AW.seq ?_
  refine AW.rgs [.no, .call [] (bV true) [] 0 [] none, .no] [1, 7] [] (P := (Fun 19 [.agg [iC ((ch : Nat) : Int), iC n, iC d, iC a, iC p, iC f, .d (D.sl (dI .i32 l) q)]] (toG []) 0 (bV true) (toG []) 0)) (l' := [(1, iV x), (7, bV false)]) (g' := []) (nx' := 1) (by kernel_rfl) (by have h0 := (Q_Valid ((ch : Nat) : Int) n d a p f l q (by omega) (by omega)); rw [hvd] at h0; exact h0) ?_
  refine AW.cond_f (.tmp (Look.of rfl)) ?_
  refine AW.skip ?_
  refine AW.seq ?_
  by_cases hx1 : (x < 0)
  · refine AW.rgs [.no, .b true, .no, .no] [13] [] (P := ((x < 0))) (l' := [(13, bV true)]) (g' := []) (nx' := 1) (by kernel_rfl) (by omega) ?_
    refine AW.cond_t (.tmp (Look.of rfl)) ?_
    refine AW.rgs [.no] [4] [] (P := True) (l' := [(4, iV 2)]) (g' := []) (nx' := 1) (by kernel_rfl) trivial ?_
    refine AW.ret ?_
    exact EndP.of (.inr rfl) [] (P := ((2 : Int) = 2)) (by kernel_rfl) rfl
  · refine AW.rgs [.no, .b false, .no, .no, .b true, .no] [13] [] (P := (¬ (x < 0)) ∧ (((65536 : Int) < x))) (l' := [(13, bV true)]) (g' := []) (nx' := 1) (by kernel_rfl) ⟨(by omega), (by omega)⟩ ?_
    refine AW.cond_t (.tmp (Look.of rfl)) ?_
    refine AW.rgs [.no] [4] [] (P := True) (l' := [(4, iV 2)]) (g' := []) (nx' := 1) (by kernel_rfl) trivial ?_
    refine AW.ret ?_
    exact EndP.of (.inr rfl) [] (P := ((2 : Int) = 2)) (by kernel_rfl) rfl

set_option maxHeartbeats 4000000 in
set_option maxRecDepth 100000 in
theorem Q_TakeE2 (ch W : Nat) (n d a p f : Int) (l : List Int) (q : Nat) (x : Int) (hq : List.length l = q) (hv : BV ch W l) (hp : PhV n d a p f) (hx : x < 0 ∨ 65536 < x) : Fun 25 [.agg [iC ((ch : Nat) : Int), iC n, iC d, iC a, iC p, iC f, .d (D.sl (dI .i32 l) q)], iE x] (toG []) 0 (.tup [.agg [iC 0, .d (D.lit (.slice none 0 0))], .agg [iC 0, iC 0, iC 0, iC 0, iC 0, iC 0, .d (D.lit (.slice none 0 0))], iE 2]) (toG []) 0 := by
  have hok : phB n d a p f = true := hp.ok
  have hob : okB ((ch : Nat) : Int) l = true := hv.ok
  have hbd : (1 ≤ n ∧ n ≤ 768000) ∧ (1 ≤ d ∧ d ≤ 768000) ∧ (-4096 ≤ a ∧ a ≤ 4096) ∧ (0 ≤ p ∧ p ≤ 1125899906842624) ∧ 0 ≤ f ∧ f < d * 65536 := hp.b
  have hst : 61440 ≤ stp n a ∧ stp n a ≤ 53477376000 := stp_in hp.b.1 hp.b.2.2.1
  have hc1 : 1 ≤ ch := hv.c1
  have hc8 : ch ≤ 8 := hv.c8
  have hlq : q = W * ch := hq.symm.trans hv.len
  have hbig : W * ch ≤ 524288 := hv.big
  have hfit : W ≤ 65536 := hv.fit
  have hqW : (q : Int) / (ch : Int) = W := by rw [hlq]; exact hv.quo
  have hvd : (phB n d a p f && okB ((ch : Nat) : Int) l) = true := by rw [hok, hob]; rfl
  refine Fun.mk (n := 37) Try.func25 rfl rfl (Nat.le_of_ble_eq_true rfl) ?_
  intro cx hcx
  refine AW.rgs [.no, .no, .no, .no] [1, 2, 4, 5] [0, 1, 2] (P := True) (l' := [(1, iV x), (2, rV 0 0), (4, rV 1 0), (5, rV 2 0)]) (g' := [(0, some (28, .ds [iD ↑ch, iD n, iD d, iD a, iD p, iD f, D.sl (dI .i32 l) q])), (1, some (30, .ds [iD 0, D.lit (.slice none 0 0)])), (2, some (28, .ds [iD 0, iD 0, iD 0, iD 0, iD 0, iD 0, D.lit (.slice none 0 0)]))]) (nx' := 3) (by kernel_rfl) trivial ?_
  refine AW.seq ?_
  refine AW.rgs [.no, .no, .call [] (iV 2) [] 0 [] none, .no] [1, 2, 4, 5, 7] [0, 1, 2] (P := (_)) (l' := [(1, iV x), (2, rV 0 0), (4, rV 1 0), (5, rV 2 0), (7, iV 2)]) (g' := [(0, some (28, .ds [iD ↑ch, iD n, iD d, iD a, iD p, iD f, D.sl (dI .i32 l) q])), (1, some (30, .ds [iD 0, D.lit (.slice none 0 0)])), (2, some (28, .ds [iD 0, iD 0, iD 0, iD 0, iD 0, iD 0, D.lit (.slice none 0 0)]))]) (nx' := 3) (by kernel_rfl) (Q_check_E2 ch W n d a p f l q x (by omega) (by first | omega | with_reducible assumption | (simp <;> omega) | rfl | assumption) (by first | omega | with_reducible assumption | (simp <;> omega) | rfl | assumption) (by first | omega | with_reducible assumption | (simp <;> omega) | rfl | assumption)) ?_
  refine AW.rgs [.no, .b true] [1, 2, 4, 5, 7, 14] [0, 1, 2] (P := (((2 : Int) ≠ 0))) (l' := [(1, iV x), (2, rV 0 0), (4, rV 1 0), (5, rV 2 0), (7, iV 2), (14, bV true)]) (g' := [(0, some (28, .ds [iD ↑ch, iD n, iD d, iD a, iD p, iD f, D.sl (dI .i32 l) q])), (1, some (30, .ds [iD 0, D.lit (.slice none 0 0)])), (2, some (28, .ds [iD 0, iD 0, iD 0, iD 0, iD 0, iD 0, D.lit (.slice none 0 0)]))]) (nx' := 3) (by kernel_rfl) (by omega) ?_
  refine AW.cond_t (.tmp (Look.of rfl)) ?_
  refine AW.rgs [.no, .no, .no, .no, .no, .no] [4, 5, 6] [1, 2] (P := True) (l' := [(4, rV 1 0), (5, rV 2 0), (6, iV 2)]) (g' := [(1, some (30, .ds [iD 0, D.lit (.slice none 0 0)])), (2, some (28, .ds [iD 0, iD 0, iD 0, iD 0, iD 0, iD 0, D.lit (.slice none 0 0)]))]) (nx' := 3) (by kernel_rfl) trivial ?_
  refine AW.ret ?_
  exact EndP.of (.inr rfl) [] (P := ((0 : Int) = 0) ∧ ((.slice none 0 0 : Value) = .slice none 0 0) ∧ ((0 : Int) = 0) ∧ ((0 : Int) = 0) ∧ ((0 : Int) = 0) ∧ ((0 : Int) = 0) ∧ ((0 : Int) = 0) ∧ ((0 : Int) = 0) ∧ ((.slice none 0 0 : Value) = .slice none 0 0) ∧ ((2 : Int) = 2)) (by kernel_rfl) ⟨rfl, rfl, rfl, rfl, rfl, rfl, rfl, rfl, rfl, rfl⟩

set_option maxHeartbeats 4000000 in
set_option maxRecDepth 100000 in
theorem Q_rTakeE2 (ch W : Nat) (n d a p f : Int) (l : List Int) (q : Nat) (x : Int) (hq : List.length l = q) (hv : BV ch W l) (hp : PhV n d a p f) (hx : x < 0 ∨ 65536 < x) : Fun 26 [.agg [iC ((ch : Nat) : Int), iC n, iC d, iC a, iC p, iC f, .d (D.sl (dI .i32 l) q)], iE x] (toG []) 0 (.tup [.agg [iC 0, .d (D.lit (.slice none 0 0))], .agg [iC 0, iC 0, iC 0, iC 0, iC 0, iC 0, .d (D.lit (.slice none 0 0))], iE 2]) (toG []) 0 := by
  have hok : phB n d a p f = true := hp.ok
  have hob : okB ((ch : Nat) : Int) l = true := hv.ok
  have hbd : (1 ≤ n ∧ n ≤ 768000) ∧ (1 ≤ d ∧ d ≤ 768000) ∧ (-4096 ≤ a ∧ a ≤ 4096) ∧ (0 ≤ p ∧ p ≤ 1125899906842624) ∧ 0 ≤ f ∧ f < d * 65536 := hp.b
  have hst : 61440 ≤ stp n a ∧ stp n a ≤ 53477376000 := stp_in hp.b.1 hp.b.2.2.1
  have hc1 : 1 ≤ ch := hv.c1
  have hc8 : ch ≤ 8 := hv.c8
  have hlq : q = W * ch := hq.symm.trans hv.len
  have hbig : W * ch ≤ 524288 := hv.big
  have hfit : W ≤ 65536 := hv.fit
  have hqW : (q : Int) / (ch : Int) = W := by rw [hlq]; exact hv.quo
  have hvd : (phB n d a p f && okB ((ch : Nat) : Int) l) = true := by rw [hok, hob]; rfl
  refine Fun.mk (n := 48) Try.func26 rfl rfl (Nat.le_of_ble_eq_true rfl) ?_
  intro cx hcx
  refine AW.rgs [.no, .no, .no, .no] [1, 2, 4, 5] [0, 1, 2] (P := True) (l' := [(1, iV x), (2, rV 0 0), (4, rV 1 0), (5, rV 2 0)]) (g' := [(0, some (28, .ds [iD ↑ch, iD n, iD d, iD a, iD p, iD f, D.sl (dI .i32 l) q])), (1, some (30, .ds [iD 0, D.lit (.slice none 0 0)])), (2, some (28, .ds [iD 0, iD 0, iD 0, iD 0, iD 0, iD 0, D.lit (.slice none 0 0)]))]) (nx' := 3) (by kernel_rfl) trivial ?_
  refine AW.seq ?_
  refine AW.rgs [.no, .call [] (bV true) [] 0 [] none, .no] [1, 2, 4, 5, 12] [0, 1, 2] (P := (Fun 20 [.agg [iC ((ch : Nat) : Int), iC n, iC d, iC a, iC p, iC f, .d (D.sl (dI .i32 l) q)]] (toG []) 0 (bV true) (toG []) 0)) (l' := [(1, iV x), (2, rV 0 0), (4, rV 1 0), (5, rV 2 0), (12, bV false)]) (g' := [(0, some (28, .ds [iD ↑ch, iD n, iD d, iD a, iD p, iD f, D.sl (dI .i32 l) q])), (1, some (30, .ds [iD 0, D.lit (.slice none 0 0)])), (2, some (28, .ds [iD 0, iD 0, iD 0, iD 0, iD 0, iD 0, D.lit (.slice none 0 0)]))]) (nx' := 3) (by kernel_rfl) (by have h0 := (Q_rValid ((ch : Nat) : Int) n d a p f l q (by omega) (by omega)); rw [hvd] at h0; exact h0) ?_
  refine AW.cond_f (.tmp (Look.of rfl)) ?_
  refine AW.skip ?_
  refine AW.rgs [.no, .no, .no, .call [] (.tup [iE 0, iE 2]) [] 0 [] none, .no, .no, .no, .no, .no] [1, 2, 4, 5, 7, 8] [0, 1, 2] (P := (_)) (l' := [(1, iV x), (2, rV 0 0), (4, rV 1 0), (5, rV 2 0), (7, iV 0), (8, iV 2)]) (g' := [(0, some (28, .ds [iD ↑ch, iD n, iD d, iD a, iD p, iD f, D.sl (dI .i32 l) q])), (1, some (30, .ds [iD 0, D.lit (.slice none 0 0)])), (2, some (28, .ds [iD 0, iD 0, iD 0, iD 0, iD 0, iD 0, D.lit (.slice none 0 0)]))]) (nx' := 3) (by kernel_rfl) (P_rNeed_no n d a p f x (by first | omega | with_reducible assumption | (simp <;> omega) | rfl | assumption) (by first | omega | with_reducible assumption | (simp <;> omega) | rfl | assumption)) ?_
  refine AW.seq ?_
  refine AW.rgs [.no, .b true] [1, 2, 4, 5, 7, 8, 23] [0, 1, 2] (P := (((2 : Int) ≠ 0))) (l' := [(1, iV x), (2, rV 0 0), (4, rV 1 0), (5, rV 2 0), (7, iV 0), (8, iV 2), (23, bV true)]) (g' := [(0, some (28, .ds [iD ↑ch, iD n, iD d, iD a, iD p, iD f, D.sl (dI .i32 l) q])), (1, some (30, .ds [iD 0, D.lit (.slice none 0 0)])), (2, some (28, .ds [iD 0, iD 0, iD 0, iD 0, iD 0, iD 0, D.lit (.slice none 0 0)]))]) (nx' := 3) (by kernel_rfl) (by omega) ?_
  refine AW.cond_t (.tmp (Look.of rfl)) ?_
  refine AW.rgs [.no, .no, .no, .no, .no, .no] [4, 5, 6] [1, 2] (P := True) (l' := [(4, rV 1 0), (5, rV 2 0), (6, iV 2)]) (g' := [(1, some (30, .ds [iD 0, D.lit (.slice none 0 0)])), (2, some (28, .ds [iD 0, iD 0, iD 0, iD 0, iD 0, iD 0, D.lit (.slice none 0 0)]))]) (nx' := 3) (by kernel_rfl) trivial ?_
  refine AW.ret ?_
  exact EndP.of (.inr rfl) [] (P := ((0 : Int) = 0) ∧ ((.slice none 0 0 : Value) = .slice none 0 0) ∧ ((0 : Int) = 0) ∧ ((0 : Int) = 0) ∧ ((0 : Int) = 0) ∧ ((0 : Int) = 0) ∧ ((0 : Int) = 0) ∧ ((0 : Int) = 0) ∧ ((.slice none 0 0 : Value) = .slice none 0 0) ∧ ((2 : Int) = 2)) (by kernel_rfl) ⟨rfl, rfl, rfl, rfl, rfl, rfl, rfl, rfl, rfl, rfl⟩

set_option maxHeartbeats 4000000 in
set_option maxRecDepth 100000 in
theorem Q_FinishE2 (ch W : Nat) (n d a p f : Int) (l : List Int) (q : Nat) (x : Int) (hq : List.length l = q) (hv : BV ch W l) (hp : PhV n d a p f) (hx : x < 0 ∨ 65536 < x) : Fun 27 [.agg [iC ((ch : Nat) : Int), iC n, iC d, iC a, iC p, iC f, .d (D.sl (dI .i32 l) q)], iE x] (toG []) 0 (.tup [.agg [iC 0, .d (D.lit (.slice none 0 0))], .agg [iC 0, iC 0, iC 0, iC 0, iC 0, iC 0, .d (D.lit (.slice none 0 0))], iE 2]) (toG []) 0 := by
  have hok : phB n d a p f = true := hp.ok
  have hob : okB ((ch : Nat) : Int) l = true := hv.ok
  have hbd : (1 ≤ n ∧ n ≤ 768000) ∧ (1 ≤ d ∧ d ≤ 768000) ∧ (-4096 ≤ a ∧ a ≤ 4096) ∧ (0 ≤ p ∧ p ≤ 1125899906842624) ∧ 0 ≤ f ∧ f < d * 65536 := hp.b
  have hst : 61440 ≤ stp n a ∧ stp n a ≤ 53477376000 := stp_in hp.b.1 hp.b.2.2.1
  have hc1 : 1 ≤ ch := hv.c1
  have hc8 : ch ≤ 8 := hv.c8
  have hlq : q = W * ch := hq.symm.trans hv.len
  have hbig : W * ch ≤ 524288 := hv.big
  have hfit : W ≤ 65536 := hv.fit
  have hqW : (q : Int) / (ch : Int) = W := by rw [hlq]; exact hv.quo
  have hvd : (phB n d a p f && okB ((ch : Nat) : Int) l) = true := by rw [hok, hob]; rfl
  refine Fun.mk (n := 24) Try.func27 rfl rfl (Nat.le_of_ble_eq_true rfl) ?_
  intro cx hcx
  refine AW.rgs [.no, .no, .no, .no] [1, 2, 4, 5] [0, 1, 2] (P := True) (l' := [(1, iV x), (2, rV 0 0), (4, rV 1 0), (5, rV 2 0)]) (g' := [(0, some (28, .ds [iD ↑ch, iD n, iD d, iD a, iD p, iD f, D.sl (dI .i32 l) q])), (1, some (30, .ds [iD 0, D.lit (.slice none 0 0)])), (2, some (28, .ds [iD 0, iD 0, iD 0, iD 0, iD 0, iD 0, D.lit (.slice none 0 0)]))]) (nx' := 3) (by kernel_rfl) trivial ?_
  refine AW.seq ?_
  refine AW.rgs [.no, .no, .call [] (iV 2) [] 0 [] none, .no] [1, 2, 4, 5, 7] [0, 1, 2] (P := (_)) (l' := [(1, iV x), (2, rV 0 0), (4, rV 1 0), (5, rV 2 0), (7, iV 2)]) (g' := [(0, some (28, .ds [iD ↑ch, iD n, iD d, iD a, iD p, iD f, D.sl (dI .i32 l) q])), (1, some (30, .ds [iD 0, D.lit (.slice none 0 0)])), (2, some (28, .ds [iD 0, iD 0, iD 0, iD 0, iD 0, iD 0, D.lit (.slice none 0 0)]))]) (nx' := 3) (by kernel_rfl) (Q_check_E2 ch W n d a p f l q x (by omega) (by first | omega | with_reducible assumption | (simp <;> omega) | rfl | assumption) (by first | omega | with_reducible assumption | (simp <;> omega) | rfl | assumption) (by first | omega | with_reducible assumption | (simp <;> omega) | rfl | assumption)) ?_
  refine AW.rgs [.no, .b true] [1, 2, 4, 5, 7, 12] [0, 1, 2] (P := (((2 : Int) ≠ 0))) (l' := [(1, iV x), (2, rV 0 0), (4, rV 1 0), (5, rV 2 0), (7, iV 2), (12, bV true)]) (g' := [(0, some (28, .ds [iD ↑ch, iD n, iD d, iD a, iD p, iD f, D.sl (dI .i32 l) q])), (1, some (30, .ds [iD 0, D.lit (.slice none 0 0)])), (2, some (28, .ds [iD 0, iD 0, iD 0, iD 0, iD 0, iD 0, D.lit (.slice none 0 0)]))]) (nx' := 3) (by kernel_rfl) (by omega) ?_
  refine AW.cond_t (.tmp (Look.of rfl)) ?_
  refine AW.rgs [.no, .no, .no, .no, .no, .no] [4, 5, 6] [1, 2] (P := True) (l' := [(4, rV 1 0), (5, rV 2 0), (6, iV 2)]) (g' := [(1, some (30, .ds [iD 0, D.lit (.slice none 0 0)])), (2, some (28, .ds [iD 0, iD 0, iD 0, iD 0, iD 0, iD 0, D.lit (.slice none 0 0)]))]) (nx' := 3) (by kernel_rfl) trivial ?_
  refine AW.ret ?_
  exact EndP.of (.inr rfl) [] (P := ((0 : Int) = 0) ∧ ((.slice none 0 0 : Value) = .slice none 0 0) ∧ ((0 : Int) = 0) ∧ ((0 : Int) = 0) ∧ ((0 : Int) = 0) ∧ ((0 : Int) = 0) ∧ ((0 : Int) = 0) ∧ ((0 : Int) = 0) ∧ ((.slice none 0 0 : Value) = .slice none 0 0) ∧ ((2 : Int) = 2)) (by kernel_rfl) ⟨rfl, rfl, rfl, rfl, rfl, rfl, rfl, rfl, rfl, rfl⟩

set_option maxHeartbeats 4000000 in
set_option maxRecDepth 100000 in
theorem Q_rFinishE2 (ch W : Nat) (n d a p f : Int) (l : List Int) (q : Nat) (x : Int) (hq : List.length l = q) (hv : BV ch W l) (hp : PhV n d a p f) (hx : x < 0 ∨ 65536 < x) : Fun 28 [.agg [iC ((ch : Nat) : Int), iC n, iC d, iC a, iC p, iC f, .d (D.sl (dI .i32 l) q)], iE x] (toG []) 0 (.tup [.agg [iC 0, .d (D.lit (.slice none 0 0))], .agg [iC 0, iC 0, iC 0, iC 0, iC 0, iC 0, .d (D.lit (.slice none 0 0))], iE 2]) (toG []) 0 := by
  have hok : phB n d a p f = true := hp.ok
  have hob : okB ((ch : Nat) : Int) l = true := hv.ok
  have hbd : (1 ≤ n ∧ n ≤ 768000) ∧ (1 ≤ d ∧ d ≤ 768000) ∧ (-4096 ≤ a ∧ a ≤ 4096) ∧ (0 ≤ p ∧ p ≤ 1125899906842624) ∧ 0 ≤ f ∧ f < d * 65536 := hp.b
  have hst : 61440 ≤ stp n a ∧ stp n a ≤ 53477376000 := stp_in hp.b.1 hp.b.2.2.1
  have hc1 : 1 ≤ ch := hv.c1
  have hc8 : ch ≤ 8 := hv.c8
  have hlq : q = W * ch := hq.symm.trans hv.len
  have hbig : W * ch ≤ 524288 := hv.big
  have hfit : W ≤ 65536 := hv.fit
  have hqW : (q : Int) / (ch : Int) = W := by rw [hlq]; exact hv.quo
  have hvd : (phB n d a p f && okB ((ch : Nat) : Int) l) = true := by rw [hok, hob]; rfl
  refine Fun.mk (n := 64) Try.func28 rfl rfl (Nat.le_of_ble_eq_true rfl) ?_
  intro cx hcx
  refine AW.rgs [.no, .no, .no, .no] [1, 2, 4, 5] [0, 1, 2] (P := True) (l' := [(1, iV x), (2, rV 0 0), (4, rV 1 0), (5, rV 2 0)]) (g' := [(0, some (28, .ds [iD ↑ch, iD n, iD d, iD a, iD p, iD f, D.sl (dI .i32 l) q])), (1, some (30, .ds [iD 0, D.lit (.slice none 0 0)])), (2, some (28, .ds [iD 0, iD 0, iD 0, iD 0, iD 0, iD 0, D.lit (.slice none 0 0)]))]) (nx' := 3) (by kernel_rfl) trivial ?_
  refine AW.seq ?_
  refine AW.rgs [.no, .call [] (bV true) [] 0 [] none, .no] [1, 2, 4, 5, 16] [0, 1, 2] (P := (Fun 20 [.agg [iC ((ch : Nat) : Int), iC n, iC d, iC a, iC p, iC f, .d (D.sl (dI .i32 l) q)]] (toG []) 0 (bV true) (toG []) 0)) (l' := [(1, iV x), (2, rV 0 0), (4, rV 1 0), (5, rV 2 0), (16, bV false)]) (g' := [(0, some (28, .ds [iD ↑ch, iD n, iD d, iD a, iD p, iD f, D.sl (dI .i32 l) q])), (1, some (30, .ds [iD 0, D.lit (.slice none 0 0)])), (2, some (28, .ds [iD 0, iD 0, iD 0, iD 0, iD 0, iD 0, D.lit (.slice none 0 0)]))]) (nx' := 3) (by kernel_rfl) (by have h0 := (Q_rValid ((ch : Nat) : Int) n d a p f l q (by omega) (by omega)); rw [hvd] at h0; exact h0) ?_
  refine AW.cond_f (.tmp (Look.of rfl)) ?_
  refine AW.skip ?_
  refine AW.seq ?_
  by_cases hx1 : (x < 0)
  · refine AW.rgs [.no, .b true, .no, .no] [1, 2, 4, 5, 24] [0, 1, 2] (P := ((x < 0))) (l' := [(1, iV x), (2, rV 0 0), (4, rV 1 0), (5, rV 2 0), (24, bV true)]) (g' := [(0, some (28, .ds [iD ↑ch, iD n, iD d, iD a, iD p, iD f, D.sl (dI .i32 l) q])), (1, some (30, .ds [iD 0, D.lit (.slice none 0 0)])), (2, some (28, .ds [iD 0, iD 0, iD 0, iD 0, iD 0, iD 0, D.lit (.slice none 0 0)]))]) (nx' := 3) (by kernel_rfl) (by omega) ?_
    refine AW.cond_t (.tmp (Look.of rfl)) ?_
    refine AW.rgs [.no, .no, .no, .no, .no] [4, 5, 6] [1, 2] (P := True) (l' := [(4, rV 1 0), (5, rV 2 0), (6, iV 2)]) (g' := [(1, some (30, .ds [iD 0, D.lit (.slice none 0 0)])), (2, some (28, .ds [iD 0, iD 0, iD 0, iD 0, iD 0, iD 0, D.lit (.slice none 0 0)]))]) (nx' := 3) (by kernel_rfl) trivial ?_
    refine AW.ret ?_
    exact EndP.of (.inr rfl) [] (P := ((0 : Int) = 0) ∧ ((.slice none 0 0 : Value) = .slice none 0 0) ∧ ((0 : Int) = 0) ∧ ((0 : Int) = 0) ∧ ((0 : Int) = 0) ∧ ((0 : Int) = 0) ∧ ((0 : Int) = 0) ∧ ((0 : Int) = 0) ∧ ((.slice none 0 0 : Value) = .slice none 0 0) ∧ ((2 : Int) = 2)) (by kernel_rfl) ⟨rfl, rfl, rfl, rfl, rfl, rfl, rfl, rfl, rfl, rfl⟩
  · refine AW.rgs [.no, .b false, .no, .no, .b true, .no] [1, 2, 4, 5, 24] [0, 1, 2] (P := (¬ (x < 0)) ∧ (((65536 : Int) < x))) (l' := [(1, iV x), (2, rV 0 0), (4, rV 1 0), (5, rV 2 0), (24, bV true)]) (g' := [(0, some (28, .ds [iD ↑ch, iD n, iD d, iD a, iD p, iD f, D.sl (dI .i32 l) q])), (1, some (30, .ds [iD 0, D.lit (.slice none 0 0)])), (2, some (28, .ds [iD 0, iD 0, iD 0, iD 0, iD 0, iD 0, D.lit (.slice none 0 0)]))]) (nx' := 3) (by kernel_rfl) ⟨(by omega), (by omega)⟩ ?_
    refine AW.cond_t (.tmp (Look.of rfl)) ?_
    refine AW.rgs [.no, .no, .no, .no, .no] [4, 5, 6] [1, 2] (P := True) (l' := [(4, rV 1 0), (5, rV 2 0), (6, iV 2)]) (g' := [(1, some (30, .ds [iD 0, D.lit (.slice none 0 0)])), (2, some (28, .ds [iD 0, iD 0, iD 0, iD 0, iD 0, iD 0, D.lit (.slice none 0 0)]))]) (nx' := 3) (by kernel_rfl) trivial ?_
    refine AW.ret ?_
    exact EndP.of (.inr rfl) [] (P := ((0 : Int) = 0) ∧ ((.slice none 0 0 : Value) = .slice none 0 0) ∧ ((0 : Int) = 0) ∧ ((0 : Int) = 0) ∧ ((0 : Int) = 0) ∧ ((0 : Int) = 0) ∧ ((0 : Int) = 0) ∧ ((0 : Int) = 0) ∧ ((.slice none 0 0 : Value) = .slice none 0 0) ∧ ((2 : Int) = 2)) (by kernel_rfl) ⟨rfl, rfl, rfl, rfl, rfl, rfl, rfl, rfl, rfl, rfl⟩

set_option maxHeartbeats 4000000 in
set_option maxRecDepth 100000 in
theorem Q_TakeE3 (ch W : Nat) (n d a p f : Int) (l : List Int) (q k : Nat) (hq : List.length l = q) (hv : BV ch W l) (hp : PhV n d a p f) (hk : k ≤ 65536) (hnd : (W : Int) < needV f (stp n a) (d * 65536) k) : Fun 25 [.agg [iC ((ch : Nat) : Int), iC n, iC d, iC a, iC p, iC f, .d (D.sl (dI .i32 l) q)], iE ((k : Nat) : Int)] (toG []) 0 (.tup [.agg [iC 0, .d (D.lit (.slice none 0 0))], .agg [iC 0, iC 0, iC 0, iC 0, iC 0, iC 0, .d (D.lit (.slice none 0 0))], iE 4]) (toG []) 0 := by
  have hok : phB n d a p f = true := hp.ok
  have hob : okB ((ch : Nat) : Int) l = true := hv.ok
  have hbd : (1 ≤ n ∧ n ≤ 768000) ∧ (1 ≤ d ∧ d ≤ 768000) ∧ (-4096 ≤ a ∧ a ≤ 4096) ∧ (0 ≤ p ∧ p ≤ 1125899906842624) ∧ 0 ≤ f ∧ f < d * 65536 := hp.b
  have hst : 61440 ≤ stp n a ∧ stp n a ≤ 53477376000 := stp_in hp.b.1 hp.b.2.2.1
  have hc1 : 1 ≤ ch := hv.c1
  have hc8 : ch ≤ 8 := hv.c8
  have hlq : q = W * ch := hq.symm.trans hv.len
  have hbig : W * ch ≤ 524288 := hv.big
  have hfit : W ≤ 65536 := hv.fit
  have hqW : (q : Int) / (ch : Int) = W := by rw [hlq]; exact hv.quo
  have hvd : (phB n d a p f && okB ((ch : Nat) : Int) l) = true := by rw [hok, hob]; rfl
  refine Fun.mk (n := 37) Try.func25 rfl rfl (Nat.le_of_ble_eq_true rfl) ?_
  intro cx hcx
  refine AW.rgs [.no, .no, .no, .no] [1, 2, 4, 5] [0, 1, 2] (P := True) (l' := [(1, iV ↑k), (2, rV 0 0), (4, rV 1 0), (5, rV 2 0)]) (g' := [(0, some (28, .ds [iD ↑ch, iD n, iD d, iD a, iD p, iD f, D.sl (dI .i32 l) q])), (1, some (30, .ds [iD 0, D.lit (.slice none 0 0)])), (2, some (28, .ds [iD 0, iD 0, iD 0, iD 0, iD 0, iD 0, D.lit (.slice none 0 0)]))]) (nx' := 3) (by kernel_rfl) trivial ?_
  refine AW.seq ?_
  refine AW.rgs [.no, .no, .call [] (iV 0) [] 0 [] none, .no] [1, 2, 4, 5, 7] [0, 1, 2] (P := (_)) (l' := [(1, iV ↑k), (2, rV 0 0), (4, rV 1 0), (5, rV 2 0), (7, iV 0)]) (g' := [(0, some (28, .ds [iD ↑ch, iD n, iD d, iD a, iD p, iD f, D.sl (dI .i32 l) q])), (1, some (30, .ds [iD 0, D.lit (.slice none 0 0)])), (2, some (28, .ds [iD 0, iD 0, iD 0, iD 0, iD 0, iD 0, D.lit (.slice none 0 0)]))]) (nx' := 3) (by kernel_rfl) (Q_check ch W n d a p f l q ((k : Nat) : Int) (by omega) (by first | omega | with_reducible assumption | (simp <;> omega) | rfl | assumption) (by first | omega | with_reducible assumption | (simp <;> omega) | rfl | assumption) (by omega)) ?_
  refine AW.rgs [.no, .b false] [1, 2, 4, 5, 7, 14] [0, 1, 2] (P := (¬ ((0 : Int) ≠ 0))) (l' := [(1, iV ↑k), (2, rV 0 0), (4, rV 1 0), (5, rV 2 0), (7, iV 0), (14, bV false)]) (g' := [(0, some (28, .ds [iD ↑ch, iD n, iD d, iD a, iD p, iD f, D.sl (dI .i32 l) q])), (1, some (30, .ds [iD 0, D.lit (.slice none 0 0)])), (2, some (28, .ds [iD 0, iD 0, iD 0, iD 0, iD 0, iD 0, D.lit (.slice none 0 0)]))]) (nx' := 3) (by kernel_rfl) (by omega) ?_
  refine AW.cond_f (.tmp (Look.of rfl)) ?_
  refine AW.skip ?_
  refine AW.seq ?_
  have hx1 : (((0 : Int) ≤ (needV f (stp n a) (d * 65536) k)) ∧ ((needV f (stp n a) (d * 65536) k) ≤ 3600000000000002)) := (by have h9 := PhV.b (show PhV n d a p f by assumption); have h8 := stp_in h9.1 h9.2.2.1; exact needV_in (by omega) (by omega) (by omega) (by omega))
  refine AW.rgs [.no, .no, .no, .call [] (.tup [iE (needV f (stp n a) (d * 65536) k), iE 0]) [] 0 [] none, .no, .no, .no, .no, .no] [1, 2, 4, 5, 8] [0, 1, 2] (P := (_)) (l' := [(1, iV ↑k), (2, rV 0 0), (4, rV 1 0), (5, rV 2 0), (8, iV (needV f (stp n a) (d * 65536) k))]) (g' := [(0, some (28, .ds [iD ↑ch, iD n, iD d, iD a, iD p, iD f, D.sl (dI .i32 l) q])), (1, some (30, .ds [iD 0, D.lit (.slice none 0 0)])), (2, some (28, .ds [iD 0, iD 0, iD 0, iD 0, iD 0, iD 0, D.lit (.slice none 0 0)]))]) (nx' := 3) (by kernel_rfl) (P_Need n d a p f k (by first | omega | with_reducible assumption | (simp <;> omega) | rfl | assumption) (by omega)) ?_
  refine AW.rgs [.no, .no, .call [] (iV ((W : Nat) : Int)) [] 0 [] none, .b true] [1, 2, 4, 5, 28] [0, 1, 2] (P := (_) ∧ ((((W : Nat) : Int) < (needV f (stp n a) (d * 65536) k)))) (l' := [(1, iV ↑k), (2, rV 0 0), (4, rV 1 0), (5, rV 2 0), (28, bV true)]) (g' := [(0, some (28, .ds [iD ↑ch, iD n, iD d, iD a, iD p, iD f, D.sl (dI .i32 l) q])), (1, some (30, .ds [iD 0, D.lit (.slice none 0 0)])), (2, some (28, .ds [iD 0, iD 0, iD 0, iD 0, iD 0, iD 0, D.lit (.slice none 0 0)]))]) (nx' := 3) (by kernel_rfl) ⟨(Q_waiting ch W n d a p f l q (by omega) (by first | omega | with_reducible assumption | (simp <;> omega) | rfl | assumption)), (by omega)⟩ ?_
  refine AW.cond_t (.tmp (Look.of rfl)) ?_
  refine AW.rgs [.no, .no, .no, .no, .no] [4, 5, 6] [1, 2] (P := True) (l' := [(4, rV 1 0), (5, rV 2 0), (6, iV 4)]) (g' := [(1, some (30, .ds [iD 0, D.lit (.slice none 0 0)])), (2, some (28, .ds [iD 0, iD 0, iD 0, iD 0, iD 0, iD 0, D.lit (.slice none 0 0)]))]) (nx' := 3) (by kernel_rfl) trivial ?_
  refine AW.ret ?_
  exact EndP.of (.inr rfl) [] (P := ((0 : Int) = 0) ∧ ((.slice none 0 0 : Value) = .slice none 0 0) ∧ ((0 : Int) = 0) ∧ ((0 : Int) = 0) ∧ ((0 : Int) = 0) ∧ ((0 : Int) = 0) ∧ ((0 : Int) = 0) ∧ ((0 : Int) = 0) ∧ ((.slice none 0 0 : Value) = .slice none 0 0) ∧ ((4 : Int) = 4)) (by kernel_rfl) ⟨rfl, rfl, rfl, rfl, rfl, rfl, rfl, rfl, rfl, rfl⟩

set_option maxHeartbeats 4000000 in
set_option maxRecDepth 100000 in
theorem Q_rTakeE3 (ch W : Nat) (n d a p f : Int) (l : List Int) (q k : Nat) (hq : List.length l = q) (hv : BV ch W l) (hp : PhV n d a p f) (hk : k ≤ 65536) (hnd : (W : Int) < needV f (stp n a) (d * 65536) k) : Fun 26 [.agg [iC ((ch : Nat) : Int), iC n, iC d, iC a, iC p, iC f, .d (D.sl (dI .i32 l) q)], iE ((k : Nat) : Int)] (toG []) 0 (.tup [.agg [iC 0, .d (D.lit (.slice none 0 0))], .agg [iC 0, iC 0, iC 0, iC 0, iC 0, iC 0, .d (D.lit (.slice none 0 0))], iE 4]) (toG []) 0 := by
  have hok : phB n d a p f = true := hp.ok
  have hob : okB ((ch : Nat) : Int) l = true := hv.ok
  have hbd : (1 ≤ n ∧ n ≤ 768000) ∧ (1 ≤ d ∧ d ≤ 768000) ∧ (-4096 ≤ a ∧ a ≤ 4096) ∧ (0 ≤ p ∧ p ≤ 1125899906842624) ∧ 0 ≤ f ∧ f < d * 65536 := hp.b
  have hst : 61440 ≤ stp n a ∧ stp n a ≤ 53477376000 := stp_in hp.b.1 hp.b.2.2.1
  have hc1 : 1 ≤ ch := hv.c1
  have hc8 : ch ≤ 8 := hv.c8
  have hlq : q = W * ch := hq.symm.trans hv.len
  have hbig : W * ch ≤ 524288 := hv.big
  have hfit : W ≤ 65536 := hv.fit
  have hqW : (q : Int) / (ch : Int) = W := by rw [hlq]; exact hv.quo
  have hvd : (phB n d a p f && okB ((ch : Nat) : Int) l) = true := by rw [hok, hob]; rfl
  refine Fun.mk (n := 48) Try.func26 rfl rfl (Nat.le_of_ble_eq_true rfl) ?_
  intro cx hcx
  refine AW.rgs [.no, .no, .no, .no] [1, 2, 4, 5] [0, 1, 2] (P := True) (l' := [(1, iV ↑k), (2, rV 0 0), (4, rV 1 0), (5, rV 2 0)]) (g' := [(0, some (28, .ds [iD ↑ch, iD n, iD d, iD a, iD p, iD f, D.sl (dI .i32 l) q])), (1, some (30, .ds [iD 0, D.lit (.slice none 0 0)])), (2, some (28, .ds [iD 0, iD 0, iD 0, iD 0, iD 0, iD 0, D.lit (.slice none 0 0)]))]) (nx' := 3) (by kernel_rfl) trivial ?_
  refine AW.seq ?_
  refine AW.rgs [.no, .call [] (bV true) [] 0 [] none, .no] [1, 2, 4, 5, 12] [0, 1, 2] (P := (Fun 20 [.agg [iC ((ch : Nat) : Int), iC n, iC d, iC a, iC p, iC f, .d (D.sl (dI .i32 l) q)]] (toG []) 0 (bV true) (toG []) 0)) (l' := [(1, iV ↑k), (2, rV 0 0), (4, rV 1 0), (5, rV 2 0), (12, bV false)]) (g' := [(0, some (28, .ds [iD ↑ch, iD n, iD d, iD a, iD p, iD f, D.sl (dI .i32 l) q])), (1, some (30, .ds [iD 0, D.lit (.slice none 0 0)])), (2, some (28, .ds [iD 0, iD 0, iD 0, iD 0, iD 0, iD 0, D.lit (.slice none 0 0)]))]) (nx' := 3) (by kernel_rfl) (by have h0 := (Q_rValid ((ch : Nat) : Int) n d a p f l q (by omega) (by omega)); rw [hvd] at h0; exact h0) ?_
  refine AW.cond_f (.tmp (Look.of rfl)) ?_
  refine AW.skip ?_
  have hx1 : (((0 : Int) ≤ (needV f (stp n a) (d * 65536) k)) ∧ ((needV f (stp n a) (d * 65536) k) ≤ 3600000000000002)) := (by have h9 := PhV.b (show PhV n d a p f by assumption); have h8 := stp_in h9.1 h9.2.2.1; exact needV_in (by omega) (by omega) (by omega) (by omega))
  refine AW.rgs [.no, .no, .no, .call [] (.tup [iE (needV f (stp n a) (d * 65536) k), iE 0]) [] 0 [] none, .no, .no, .no, .no, .no] [1, 2, 4, 5, 7, 8] [0, 1, 2] (P := (_)) (l' := [(1, iV ↑k), (2, rV 0 0), (4, rV 1 0), (5, rV 2 0), (7, iV (needV f (stp n a) (d * 65536) k)), (8, iV 0)]) (g' := [(0, some (28, .ds [iD ↑ch, iD n, iD d, iD a, iD p, iD f, D.sl (dI .i32 l) q])), (1, some (30, .ds [iD 0, D.lit (.slice none 0 0)])), (2, some (28, .ds [iD 0, iD 0, iD 0, iD 0, iD 0, iD 0, D.lit (.slice none 0 0)]))]) (nx' := 3) (by kernel_rfl) (P_rNeed n d a p f k (by first | omega | with_reducible assumption | (simp <;> omega) | rfl | assumption) (by omega)) ?_
  refine AW.seq ?_
  refine AW.rgs [.no, .b false] [1, 2, 4, 5, 7, 8, 23] [0, 1, 2] (P := (¬ ((0 : Int) ≠ 0))) (l' := [(1, iV ↑k), (2, rV 0 0), (4, rV 1 0), (5, rV 2 0), (7, iV (needV f (stp n a) (d * 65536) k)), (8, iV 0), (23, bV false)]) (g' := [(0, some (28, .ds [iD ↑ch, iD n, iD d, iD a, iD p, iD f, D.sl (dI .i32 l) q])), (1, some (30, .ds [iD 0, D.lit (.slice none 0 0)])), (2, some (28, .ds [iD 0, iD 0, iD 0, iD 0, iD 0, iD 0, D.lit (.slice none 0 0)]))]) (nx' := 3) (by kernel_rfl) (by omega) ?_
  refine AW.cond_f (.tmp (Look.of rfl)) ?_
  refine AW.skip ?_
  refine AW.seq ?_
  refine AW.rgs [.no, .no, .call [] (iV ((W : Nat) : Int)) [] 0 [] none, .b true] [1, 2, 4, 5, 30] [0, 1, 2] (P := (_) ∧ ((((W : Nat) : Int) < (needV f (stp n a) (d * 65536) k)))) (l' := [(1, iV ↑k), (2, rV 0 0), (4, rV 1 0), (5, rV 2 0), (30, bV true)]) (g' := [(0, some (28, .ds [iD ↑ch, iD n, iD d, iD a, iD p, iD f, D.sl (dI .i32 l) q])), (1, some (30, .ds [iD 0, D.lit (.slice none 0 0)])), (2, some (28, .ds [iD 0, iD 0, iD 0, iD 0, iD 0, iD 0, D.lit (.slice none 0 0)]))]) (nx' := 3) (by kernel_rfl) ⟨(Q_rWaiting ch W n d a p f l q (by omega) (by first | omega | with_reducible assumption | (simp <;> omega) | rfl | assumption) (by first | omega | with_reducible assumption | (simp <;> omega) | rfl | assumption)), (by omega)⟩ ?_
  refine AW.cond_t (.tmp (Look.of rfl)) ?_
  refine AW.rgs [.no, .no, .no, .no, .no] [4, 5, 6] [1, 2] (P := True) (l' := [(4, rV 1 0), (5, rV 2 0), (6, iV 4)]) (g' := [(1, some (30, .ds [iD 0, D.lit (.slice none 0 0)])), (2, some (28, .ds [iD 0, iD 0, iD 0, iD 0, iD 0, iD 0, D.lit (.slice none 0 0)]))]) (nx' := 3) (by kernel_rfl) trivial ?_
  refine AW.ret ?_
  exact EndP.of (.inr rfl) [] (P := ((0 : Int) = 0) ∧ ((.slice none 0 0 : Value) = .slice none 0 0) ∧ ((0 : Int) = 0) ∧ ((0 : Int) = 0) ∧ ((0 : Int) = 0) ∧ ((0 : Int) = 0) ∧ ((0 : Int) = 0) ∧ ((0 : Int) = 0) ∧ ((.slice none 0 0 : Value) = .slice none 0 0) ∧ ((4 : Int) = 4)) (by kernel_rfl) ⟨rfl, rfl, rfl, rfl, rfl, rfl, rfl, rfl, rfl, rfl⟩

set_option maxHeartbeats 4000000 in
set_option maxRecDepth 100000 in
theorem Q_giveE (ch W : Nat) (n d a p f : Int) (l : List Int) (q k : Nat) (hq : List.length l = q) (hv : BV ch W l) (hp : PhV n d a p f) (hk : k ≤ 65536) (hb : 1125899906842624 < p + (mvV f (stp n a) k / (d * 65536))) : Fun 54 [.agg [iC ((ch : Nat) : Int), iC n, iC d, iC a, iC p, iC f, .d (D.sl (dI .i32 l) q)], iE ((k : Nat) : Int)] (toG []) 0 (.tup [.agg [iC 0, .d (D.lit (.slice none 0 0))], .agg [iC 0, iC 0, iC 0, iC 0, iC 0, iC 0, .d (D.lit (.slice none 0 0))], iE 2]) (toG []) 0 := by
  have hok : phB n d a p f = true := hp.ok
  have hob : okB ((ch : Nat) : Int) l = true := hv.ok
  have hbd : (1 ≤ n ∧ n ≤ 768000) ∧ (1 ≤ d ∧ d ≤ 768000) ∧ (-4096 ≤ a ∧ a ≤ 4096) ∧ (0 ≤ p ∧ p ≤ 1125899906842624) ∧ 0 ≤ f ∧ f < d * 65536 := hp.b
  have hst : 61440 ≤ stp n a ∧ stp n a ≤ 53477376000 := stp_in hp.b.1 hp.b.2.2.1
  have hc1 : 1 ≤ ch := hv.c1
  have hc8 : ch ≤ 8 := hv.c8
  have hlq : q = W * ch := hq.symm.trans hv.len
  have hbig : W * ch ≤ 524288 := hv.big
  have hfit : W ≤ 65536 := hv.fit
  have hqW : (q : Int) / (ch : Int) = W := by rw [hlq]; exact hv.quo
  have hvd : (phB n d a p f && okB ((ch : Nat) : Int) l) = true := by rw [hok, hob]; rfl
  refine Fun.mk (n := 57) Try.func54 rfl rfl (Nat.le_of_ble_eq_true rfl) ?_
  intro cx hcx
  refine AW.rgs [.no, .no, .no, .no] [1, 2, 4, 5] [0, 1, 2] (P := True) (l' := [(1, iV ↑k), (2, rV 0 0), (4, rV 1 0), (5, rV 2 0)]) (g' := [(0, some (28, .ds [iD ↑ch, iD n, iD d, iD a, iD p, iD f, D.sl (dI .i32 l) q])), (1, some (30, .ds [iD 0, D.lit (.slice none 0 0)])), (2, some (28, .ds [iD 0, iD 0, iD 0, iD 0, iD 0, iD 0, D.lit (.slice none 0 0)]))]) (nx' := 3) (by kernel_rfl) trivial ?_
  refine AW.rgs [.no, .no, .no, .call [] (.tup [.agg [iC 0, iC 0, iC 0, iC 0, iC 0], iE 2]) [] 0 [] none, .no, .no, .no, .no, .no, .no] [1, 2, 4, 5, 7, 8] [0, 1, 2, 3] (P := (_)) (l' := [(1, iV ↑k), (2, rV 0 0), (4, rV 1 0), (5, rV 2 0), (7, rV 3 0), (8, iV 2)]) (g' := [(0, some (28, .ds [iD ↑ch, iD n, iD d, iD a, iD p, iD f, D.sl (dI .i32 l) q])), (1, some (30, .ds [iD 0, D.lit (.slice none 0 0)])), (2, some (28, .ds [iD 0, iD 0, iD 0, iD 0, iD 0, iD 0, D.lit (.slice none 0 0)])), (3, some (25, .ds [iD 0, iD 0, iD 0, iD 0, iD 0]))]) (nx' := 4) (by kernel_rfl) (P_Advance_no n d a p f k (by first | omega | with_reducible assumption | (simp <;> omega) | rfl | assumption) (by omega) (by first | omega | with_reducible assumption | (simp <;> omega) | rfl | assumption)) ?_
  refine AW.seq ?_
  refine AW.rgs [.no, .b true] [1, 2, 4, 5, 7, 8, 19] [0, 1, 2, 3] (P := (((2 : Int) ≠ 0))) (l' := [(1, iV ↑k), (2, rV 0 0), (4, rV 1 0), (5, rV 2 0), (7, rV 3 0), (8, iV 2), (19, bV true)]) (g' := [(0, some (28, .ds [iD ↑ch, iD n, iD d, iD a, iD p, iD f, D.sl (dI .i32 l) q])), (1, some (30, .ds [iD 0, D.lit (.slice none 0 0)])), (2, some (28, .ds [iD 0, iD 0, iD 0, iD 0, iD 0, iD 0, D.lit (.slice none 0 0)])), (3, some (25, .ds [iD 0, iD 0, iD 0, iD 0, iD 0]))]) (nx' := 4) (by kernel_rfl) (by omega) ?_
  refine AW.cond_t (.tmp (Look.of rfl)) ?_
  refine AW.rgs [.no, .no, .no, .no, .no, .no] [4, 5, 6] [1, 2] (P := True) (l' := [(4, rV 1 0), (5, rV 2 0), (6, iV 2)]) (g' := [(1, some (30, .ds [iD 0, D.lit (.slice none 0 0)])), (2, some (28, .ds [iD 0, iD 0, iD 0, iD 0, iD 0, iD 0, D.lit (.slice none 0 0)]))]) (nx' := 4) (by kernel_rfl) trivial ?_
  refine AW.ret ?_
  exact EndP.of (.inr rfl) [] (P := ((0 : Int) = 0) ∧ ((.slice none 0 0 : Value) = .slice none 0 0) ∧ ((0 : Int) = 0) ∧ ((0 : Int) = 0) ∧ ((0 : Int) = 0) ∧ ((0 : Int) = 0) ∧ ((0 : Int) = 0) ∧ ((0 : Int) = 0) ∧ ((.slice none 0 0 : Value) = .slice none 0 0) ∧ ((2 : Int) = 2)) (by kernel_rfl) ⟨rfl, rfl, rfl, rfl, rfl, rfl, rfl, rfl, rfl, rfl⟩

set_option maxHeartbeats 4000000 in
set_option maxRecDepth 100000 in
theorem Q_rpassedE (ch W : Nat) (n d a p f : Int) (l : List Int) (q k : Nat) (hq : List.length l = q) (hv : BV ch W l) (hp : PhV n d a p f) (hk : k ≤ 65536) (hb : 1125899906842624 < p + (mvV f (stp n a) k / (d * 65536))) : Fun 56 [.agg [iC ((ch : Nat) : Int), iC n, iC d, iC a, iC p, iC f, .d (D.sl (dI .i32 l) q)], iE ((k : Nat) : Int)] (toG []) 0 (.tup [.agg [iC 0, iC 0, iC 0, iC 0, iC 0, iC 0, .d (D.lit (.slice none 0 0))], iE 2]) (toG []) 0 := by
  have hok : phB n d a p f = true := hp.ok
  have hob : okB ((ch : Nat) : Int) l = true := hv.ok
  have hbd : (1 ≤ n ∧ n ≤ 768000) ∧ (1 ≤ d ∧ d ≤ 768000) ∧ (-4096 ≤ a ∧ a ≤ 4096) ∧ (0 ≤ p ∧ p ≤ 1125899906842624) ∧ 0 ≤ f ∧ f < d * 65536 := hp.b
  have hst : 61440 ≤ stp n a ∧ stp n a ≤ 53477376000 := stp_in hp.b.1 hp.b.2.2.1
  have hc1 : 1 ≤ ch := hv.c1
  have hc8 : ch ≤ 8 := hv.c8
  have hlq : q = W * ch := hq.symm.trans hv.len
  have hbig : W * ch ≤ 524288 := hv.big
  have hfit : W ≤ 65536 := hv.fit
  have hqW : (q : Int) / (ch : Int) = W := by rw [hlq]; exact hv.quo
  have hvd : (phB n d a p f && okB ((ch : Nat) : Int) l) = true := by rw [hok, hob]; rfl
  refine Fun.mk (n := 41) Try.func56 rfl rfl (Nat.le_of_ble_eq_true rfl) ?_
  intro cx hcx
  refine AW.rgs [.no, .no, .no] [1, 2, 4] [0, 1] (P := True) (l' := [(1, iV ↑k), (2, rV 0 0), (4, rV 1 0)]) (g' := [(0, some (28, .ds [iD ↑ch, iD n, iD d, iD a, iD p, iD f, D.sl (dI .i32 l) q])), (1, some (28, .ds [iD 0, iD 0, iD 0, iD 0, iD 0, iD 0, D.lit (.slice none 0 0)]))]) (nx' := 2) (by kernel_rfl) trivial ?_
  refine AW.rgs [.no, .no, .no, .call [] (.tup [.agg [iC 0, iC 0, iC 0, iC 0, iC 0], iE 2]) [] 0 [] none, .no, .no, .no, .no, .no, .no] [2, 4, 6, 7] [0, 1, 2] (P := (_)) (l' := [(2, rV 0 0), (4, rV 1 0), (6, rV 2 0), (7, iV 2)]) (g' := [(0, some (28, .ds [iD ↑ch, iD n, iD d, iD a, iD p, iD f, D.sl (dI .i32 l) q])), (1, some (28, .ds [iD 0, iD 0, iD 0, iD 0, iD 0, iD 0, D.lit (.slice none 0 0)])), (2, some (25, .ds [iD 0, iD 0, iD 0, iD 0, iD 0]))]) (nx' := 3) (by kernel_rfl) (P_rAdvance_no n d a p f k (by first | omega | with_reducible assumption | (simp <;> omega) | rfl | assumption) (by omega) (by first | omega | with_reducible assumption | (simp <;> omega) | rfl | assumption)) ?_
  refine AW.seq ?_
  refine AW.rgs [.no, .b true] [2, 4, 6, 7, 17] [0, 1, 2] (P := (((2 : Int) ≠ 0))) (l' := [(2, rV 0 0), (4, rV 1 0), (6, rV 2 0), (7, iV 2), (17, bV true)]) (g' := [(0, some (28, .ds [iD ↑ch, iD n, iD d, iD a, iD p, iD f, D.sl (dI .i32 l) q])), (1, some (28, .ds [iD 0, iD 0, iD 0, iD 0, iD 0, iD 0, D.lit (.slice none 0 0)])), (2, some (25, .ds [iD 0, iD 0, iD 0, iD 0, iD 0]))]) (nx' := 3) (by kernel_rfl) (by omega) ?_
  refine AW.cond_t (.tmp (Look.of rfl)) ?_
  refine AW.rgs [.no, .no, .no, .no] [4, 5] [1] (P := True) (l' := [(4, rV 1 0), (5, iV 2)]) (g' := [(1, some (28, .ds [iD 0, iD 0, iD 0, iD 0, iD 0, iD 0, D.lit (.slice none 0 0)]))]) (nx' := 3) (by kernel_rfl) trivial ?_
  refine AW.ret ?_
  exact EndP.of (.inr rfl) [] (P := ((0 : Int) = 0) ∧ ((0 : Int) = 0) ∧ ((0 : Int) = 0) ∧ ((0 : Int) = 0) ∧ ((0 : Int) = 0) ∧ ((0 : Int) = 0) ∧ ((.slice none 0 0 : Value) = .slice none 0 0) ∧ ((2 : Int) = 2)) (by kernel_rfl) ⟨rfl, rfl, rfl, rfl, rfl, rfl, rfl, rfl⟩

set_option maxHeartbeats 4000000 in
set_option maxRecDepth 100000 in
theorem Q_TakeE4 (ch W : Nat) (n d a p f : Int) (l : List Int) (q k : Nat) (hq : List.length l = q) (hv : BV ch W l) (hp : PhV n d a p f) (hk : k ≤ 65536) (hnd : needV f (stp n a) (d * 65536) k ≤ (W : Int)) (hb : 1125899906842624 < p + (mvV f (stp n a) k / (d * 65536))) : Fun 25 [.agg [iC ((ch : Nat) : Int), iC n, iC d, iC a, iC p, iC f, .d (D.sl (dI .i32 l) q)], iE ((k : Nat) : Int)] (toG []) 0 (.tup [.agg [iC 0, .d (D.lit (.slice none 0 0))], .agg [iC 0, iC 0, iC 0, iC 0, iC 0, iC 0, .d (D.lit (.slice none 0 0))], iE 2]) (toG []) 0 := by
  have hok : phB n d a p f = true := hp.ok
  have hob : okB ((ch : Nat) : Int) l = true := hv.ok
  have hbd : (1 ≤ n ∧ n ≤ 768000) ∧ (1 ≤ d ∧ d ≤ 768000) ∧ (-4096 ≤ a ∧ a ≤ 4096) ∧ (0 ≤ p ∧ p ≤ 1125899906842624) ∧ 0 ≤ f ∧ f < d * 65536 := hp.b
  have hst : 61440 ≤ stp n a ∧ stp n a ≤ 53477376000 := stp_in hp.b.1 hp.b.2.2.1
  have hc1 : 1 ≤ ch := hv.c1
  have hc8 : ch ≤ 8 := hv.c8
  have hlq : q = W * ch := hq.symm.trans hv.len
  have hbig : W * ch ≤ 524288 := hv.big
  have hfit : W ≤ 65536 := hv.fit
  have hqW : (q : Int) / (ch : Int) = W := by rw [hlq]; exact hv.quo
  have hvd : (phB n d a p f && okB ((ch : Nat) : Int) l) = true := by rw [hok, hob]; rfl
  refine Fun.mk (n := 37) Try.func25 rfl rfl (Nat.le_of_ble_eq_true rfl) ?_
  intro cx hcx
  refine AW.rgs [.no, .no, .no, .no] [1, 2, 4, 5] [0, 1, 2] (P := True) (l' := [(1, iV ↑k), (2, rV 0 0), (4, rV 1 0), (5, rV 2 0)]) (g' := [(0, some (28, .ds [iD ↑ch, iD n, iD d, iD a, iD p, iD f, D.sl (dI .i32 l) q])), (1, some (30, .ds [iD 0, D.lit (.slice none 0 0)])), (2, some (28, .ds [iD 0, iD 0, iD 0, iD 0, iD 0, iD 0, D.lit (.slice none 0 0)]))]) (nx' := 3) (by kernel_rfl) trivial ?_
  refine AW.seq ?_
  refine AW.rgs [.no, .no, .call [] (iV 0) [] 0 [] none, .no] [1, 2, 4, 5, 7] [0, 1, 2] (P := (_)) (l' := [(1, iV ↑k), (2, rV 0 0), (4, rV 1 0), (5, rV 2 0), (7, iV 0)]) (g' := [(0, some (28, .ds [iD ↑ch, iD n, iD d, iD a, iD p, iD f, D.sl (dI .i32 l) q])), (1, some (30, .ds [iD 0, D.lit (.slice none 0 0)])), (2, some (28, .ds [iD 0, iD 0, iD 0, iD 0, iD 0, iD 0, D.lit (.slice none 0 0)]))]) (nx' := 3) (by kernel_rfl) (Q_check ch W n d a p f l q ((k : Nat) : Int) (by omega) (by first | omega | with_reducible assumption | (simp <;> omega) | rfl | assumption) (by first | omega | with_reducible assumption | (simp <;> omega) | rfl | assumption) (by omega)) ?_
  refine AW.rgs [.no, .b false] [1, 2, 4, 5, 7, 14] [0, 1, 2] (P := (¬ ((0 : Int) ≠ 0))) (l' := [(1, iV ↑k), (2, rV 0 0), (4, rV 1 0), (5, rV 2 0), (7, iV 0), (14, bV false)]) (g' := [(0, some (28, .ds [iD ↑ch, iD n, iD d, iD a, iD p, iD f, D.sl (dI .i32 l) q])), (1, some (30, .ds [iD 0, D.lit (.slice none 0 0)])), (2, some (28, .ds [iD 0, iD 0, iD 0, iD 0, iD 0, iD 0, D.lit (.slice none 0 0)]))]) (nx' := 3) (by kernel_rfl) (by omega) ?_
  refine AW.cond_f (.tmp (Look.of rfl)) ?_
  refine AW.skip ?_
  refine AW.seq ?_
  have hx1 : (((0 : Int) ≤ (needV f (stp n a) (d * 65536) k)) ∧ ((needV f (stp n a) (d * 65536) k) ≤ 3600000000000002)) := (by have h9 := PhV.b (show PhV n d a p f by assumption); have h8 := stp_in h9.1 h9.2.2.1; exact needV_in (by omega) (by omega) (by omega) (by omega))
  refine AW.rgs [.no, .no, .no, .call [] (.tup [iE (needV f (stp n a) (d * 65536) k), iE 0]) [] 0 [] none, .no, .no, .no, .no, .no] [1, 2, 4, 5, 8] [0, 1, 2] (P := (_)) (l' := [(1, iV ↑k), (2, rV 0 0), (4, rV 1 0), (5, rV 2 0), (8, iV (needV f (stp n a) (d * 65536) k))]) (g' := [(0, some (28, .ds [iD ↑ch, iD n, iD d, iD a, iD p, iD f, D.sl (dI .i32 l) q])), (1, some (30, .ds [iD 0, D.lit (.slice none 0 0)])), (2, some (28, .ds [iD 0, iD 0, iD 0, iD 0, iD 0, iD 0, D.lit (.slice none 0 0)]))]) (nx' := 3) (by kernel_rfl) (P_Need n d a p f k (by first | omega | with_reducible assumption | (simp <;> omega) | rfl | assumption) (by omega)) ?_
  refine AW.rgs [.no, .no, .call [] (iV ((W : Nat) : Int)) [] 0 [] none, .b false] [1, 2, 4, 5, 28] [0, 1, 2] (P := (_) ∧ (¬ (((W : Nat) : Int) < (needV f (stp n a) (d * 65536) k)))) (l' := [(1, iV ↑k), (2, rV 0 0), (4, rV 1 0), (5, rV 2 0), (28, bV false)]) (g' := [(0, some (28, .ds [iD ↑ch, iD n, iD d, iD a, iD p, iD f, D.sl (dI .i32 l) q])), (1, some (30, .ds [iD 0, D.lit (.slice none 0 0)])), (2, some (28, .ds [iD 0, iD 0, iD 0, iD 0, iD 0, iD 0, D.lit (.slice none 0 0)]))]) (nx' := 3) (by kernel_rfl) ⟨(Q_waiting ch W n d a p f l q (by omega) (by first | omega | with_reducible assumption | (simp <;> omega) | rfl | assumption)), (by omega)⟩ ?_
  refine AW.cond_f (.tmp (Look.of rfl)) ?_
  refine AW.skip ?_
  refine AW.rgs [.no, .no, .call [] (.tup [.agg [iC 0, .d (D.lit (.slice none 0 0))], .agg [iC 0, iC 0, iC 0, iC 0, iC 0, iC 0, .d (D.lit (.slice none 0 0))], iE 2]) [] 0 [] none, .no, .no, .no, .no, .no, .no] [4, 5, 6] [1, 2] (P := (_)) (l' := [(4, rV 1 0), (5, rV 2 0), (6, iV 2)]) (g' := [(1, some (30, .ds [iD 0, D.lit (.slice none 0 0)])), (2, some (28, .ds [iD 0, iD 0, iD 0, iD 0, iD 0, iD 0, D.lit (.slice none 0 0)]))]) (nx' := 3) (by kernel_rfl) (Q_giveE ch W n d a p f l q k (by omega) (by first | omega | with_reducible assumption | (simp <;> omega) | rfl | assumption) (by first | omega | with_reducible assumption | (simp <;> omega) | rfl | assumption) (by omega) (by first | omega | with_reducible assumption | (simp <;> omega) | rfl | assumption)) ?_
  refine AW.ret ?_
  exact EndP.of (.inr rfl) [] (P := ((0 : Int) = 0) ∧ ((.slice none 0 0 : Value) = .slice none 0 0) ∧ ((0 : Int) = 0) ∧ ((0 : Int) = 0) ∧ ((0 : Int) = 0) ∧ ((0 : Int) = 0) ∧ ((0 : Int) = 0) ∧ ((0 : Int) = 0) ∧ ((.slice none 0 0 : Value) = .slice none 0 0) ∧ ((2 : Int) = 2)) (by kernel_rfl) ⟨rfl, rfl, rfl, rfl, rfl, rfl, rfl, rfl, rfl, rfl⟩

set_option maxHeartbeats 4000000 in
set_option maxRecDepth 100000 in
theorem Q_rTakeE4 (ch W : Nat) (n d a p f : Int) (l : List Int) (q k : Nat) (hq : List.length l = q) (hv : BV ch W l) (hp : PhV n d a p f) (hk : k ≤ 65536) (hnd : needV f (stp n a) (d * 65536) k ≤ (W : Int)) (hb : 1125899906842624 < p + (mvV f (stp n a) k / (d * 65536))) : Fun 26 [.agg [iC ((ch : Nat) : Int), iC n, iC d, iC a, iC p, iC f, .d (D.sl (dI .i32 l) q)], iE ((k : Nat) : Int)] (toG []) 0 (.tup [.agg [iC 0, .d (D.lit (.slice none 0 0))], .agg [iC 0, iC 0, iC 0, iC 0, iC 0, iC 0, .d (D.lit (.slice none 0 0))], iE 2]) (toG []) 0 := by
  have hok : phB n d a p f = true := hp.ok
  have hob : okB ((ch : Nat) : Int) l = true := hv.ok
  have hbd : (1 ≤ n ∧ n ≤ 768000) ∧ (1 ≤ d ∧ d ≤ 768000) ∧ (-4096 ≤ a ∧ a ≤ 4096) ∧ (0 ≤ p ∧ p ≤ 1125899906842624) ∧ 0 ≤ f ∧ f < d * 65536 := hp.b
  have hst : 61440 ≤ stp n a ∧ stp n a ≤ 53477376000 := stp_in hp.b.1 hp.b.2.2.1
  have hc1 : 1 ≤ ch := hv.c1
  have hc8 : ch ≤ 8 := hv.c8
  have hlq : q = W * ch := hq.symm.trans hv.len
  have hbig : W * ch ≤ 524288 := hv.big
  have hfit : W ≤ 65536 := hv.fit
  have hqW : (q : Int) / (ch : Int) = W := by rw [hlq]; exact hv.quo
  have hvd : (phB n d a p f && okB ((ch : Nat) : Int) l) = true := by rw [hok, hob]; rfl
  refine Fun.mk (n := 48) Try.func26 rfl rfl (Nat.le_of_ble_eq_true rfl) ?_
  intro cx hcx
  refine AW.rgs [.no, .no, .no, .no] [1, 2, 4, 5] [0, 1, 2] (P := True) (l' := [(1, iV ↑k), (2, rV 0 0), (4, rV 1 0), (5, rV 2 0)]) (g' := [(0, some (28, .ds [iD ↑ch, iD n, iD d, iD a, iD p, iD f, D.sl (dI .i32 l) q])), (1, some (30, .ds [iD 0, D.lit (.slice none 0 0)])), (2, some (28, .ds [iD 0, iD 0, iD 0, iD 0, iD 0, iD 0, D.lit (.slice none 0 0)]))]) (nx' := 3) (by kernel_rfl) trivial ?_
  refine AW.seq ?_
  refine AW.rgs [.no, .call [] (bV true) [] 0 [] none, .no] [1, 2, 4, 5, 12] [0, 1, 2] (P := (Fun 20 [.agg [iC ((ch : Nat) : Int), iC n, iC d, iC a, iC p, iC f, .d (D.sl (dI .i32 l) q)]] (toG []) 0 (bV true) (toG []) 0)) (l' := [(1, iV ↑k), (2, rV 0 0), (4, rV 1 0), (5, rV 2 0), (12, bV false)]) (g' := [(0, some (28, .ds [iD ↑ch, iD n, iD d, iD a, iD p, iD f, D.sl (dI .i32 l) q])), (1, some (30, .ds [iD 0, D.lit (.slice none 0 0)])), (2, some (28, .ds [iD 0, iD 0, iD 0, iD 0, iD 0, iD 0, D.lit (.slice none 0 0)]))]) (nx' := 3) (by kernel_rfl) (by have h0 := (Q_rValid ((ch : Nat) : Int) n d a p f l q (by omega) (by omega)); rw [hvd] at h0; exact h0) ?_
  refine AW.cond_f (.tmp (Look.of rfl)) ?_
  refine AW.skip ?_
  have hx1 : (((0 : Int) ≤ (needV f (stp n a) (d * 65536) k)) ∧ ((needV f (stp n a) (d * 65536) k) ≤ 3600000000000002)) := (by have h9 := PhV.b (show PhV n d a p f by assumption); have h8 := stp_in h9.1 h9.2.2.1; exact needV_in (by omega) (by omega) (by omega) (by omega))
  refine AW.rgs [.no, .no, .no, .call [] (.tup [iE (needV f (stp n a) (d * 65536) k), iE 0]) [] 0 [] none, .no, .no, .no, .no, .no] [1, 2, 4, 5, 7, 8] [0, 1, 2] (P := (_)) (l' := [(1, iV ↑k), (2, rV 0 0), (4, rV 1 0), (5, rV 2 0), (7, iV (needV f (stp n a) (d * 65536) k)), (8, iV 0)]) (g' := [(0, some (28, .ds [iD ↑ch, iD n, iD d, iD a, iD p, iD f, D.sl (dI .i32 l) q])), (1, some (30, .ds [iD 0, D.lit (.slice none 0 0)])), (2, some (28, .ds [iD 0, iD 0, iD 0, iD 0, iD 0, iD 0, D.lit (.slice none 0 0)]))]) (nx' := 3) (by kernel_rfl) (P_rNeed n d a p f k (by first | omega | with_reducible assumption | (simp <;> omega) | rfl | assumption) (by omega)) ?_
  refine AW.seq ?_
  refine AW.rgs [.no, .b false] [1, 2, 4, 5, 7, 8, 23] [0, 1, 2] (P := (¬ ((0 : Int) ≠ 0))) (l' := [(1, iV ↑k), (2, rV 0 0), (4, rV 1 0), (5, rV 2 0), (7, iV (needV f (stp n a) (d * 65536) k)), (8, iV 0), (23, bV false)]) (g' := [(0, some (28, .ds [iD ↑ch, iD n, iD d, iD a, iD p, iD f, D.sl (dI .i32 l) q])), (1, some (30, .ds [iD 0, D.lit (.slice none 0 0)])), (2, some (28, .ds [iD 0, iD 0, iD 0, iD 0, iD 0, iD 0, D.lit (.slice none 0 0)]))]) (nx' := 3) (by kernel_rfl) (by omega) ?_
  refine AW.cond_f (.tmp (Look.of rfl)) ?_
  refine AW.skip ?_
  refine AW.seq ?_
  refine AW.rgs [.no, .no, .call [] (iV ((W : Nat) : Int)) [] 0 [] none, .b false] [1, 2, 4, 5, 30] [0, 1, 2] (P := (_) ∧ (¬ (((W : Nat) : Int) < (needV f (stp n a) (d * 65536) k)))) (l' := [(1, iV ↑k), (2, rV 0 0), (4, rV 1 0), (5, rV 2 0), (30, bV false)]) (g' := [(0, some (28, .ds [iD ↑ch, iD n, iD d, iD a, iD p, iD f, D.sl (dI .i32 l) q])), (1, some (30, .ds [iD 0, D.lit (.slice none 0 0)])), (2, some (28, .ds [iD 0, iD 0, iD 0, iD 0, iD 0, iD 0, D.lit (.slice none 0 0)]))]) (nx' := 3) (by kernel_rfl) ⟨(Q_rWaiting ch W n d a p f l q (by omega) (by first | omega | with_reducible assumption | (simp <;> omega) | rfl | assumption) (by first | omega | with_reducible assumption | (simp <;> omega) | rfl | assumption)), (by omega)⟩ ?_
  refine AW.cond_f (.tmp (Look.of rfl)) ?_
  refine AW.skip ?_
  refine AW.rgs [.no, .no, .call [] (.tup [.agg [iC 0, iC 0, iC 0, iC 0, iC 0, iC 0, .d (D.lit (.slice none 0 0))], iE 2]) [] 0 [] none, .no, .no, .no, .no, .no, .no] [1, 2, 4, 5, 8, 9] [0, 1, 2, 3] (P := (_)) (l' := [(1, iV ↑k), (2, rV 0 0), (4, rV 1 0), (5, rV 2 0), (8, iV 2), (9, rV 3 0)]) (g' := [(0, some (28, .ds [iD ↑ch, iD n, iD d, iD a, iD p, iD f, D.sl (dI .i32 l) q])), (1, some (30, .ds [iD 0, D.lit (.slice none 0 0)])), (2, some (28, .ds [iD 0, iD 0, iD 0, iD 0, iD 0, iD 0, D.lit (.slice none 0 0)])), (3, some (28, .ds [iD 0, iD 0, iD 0, iD 0, iD 0, iD 0, D.lit (.slice none 0 0)]))]) (nx' := 4) (by kernel_rfl) (Q_rpassedE ch W n d a p f l q k (by omega) (by first | omega | with_reducible assumption | (simp <;> omega) | rfl | assumption) (by first | omega | with_reducible assumption | (simp <;> omega) | rfl | assumption) (by omega) (by first | omega | with_reducible assumption | (simp <;> omega) | rfl | assumption)) ?_
  refine AW.seq ?_
  refine AW.rgs [.no, .b true] [1, 2, 4, 5, 8, 9, 40] [0, 1, 2, 3] (P := (((2 : Int) ≠ 0))) (l' := [(1, iV ↑k), (2, rV 0 0), (4, rV 1 0), (5, rV 2 0), (8, iV 2), (9, rV 3 0), (40, bV true)]) (g' := [(0, some (28, .ds [iD ↑ch, iD n, iD d, iD a, iD p, iD f, D.sl (dI .i32 l) q])), (1, some (30, .ds [iD 0, D.lit (.slice none 0 0)])), (2, some (28, .ds [iD 0, iD 0, iD 0, iD 0, iD 0, iD 0, D.lit (.slice none 0 0)])), (3, some (28, .ds [iD 0, iD 0, iD 0, iD 0, iD 0, iD 0, D.lit (.slice none 0 0)]))]) (nx' := 4) (by kernel_rfl) (by omega) ?_
  refine AW.cond_t (.tmp (Look.of rfl)) ?_
  refine AW.rgs [.no, .no, .no, .no, .no, .no] [4, 5, 6] [1, 2] (P := True) (l' := [(4, rV 1 0), (5, rV 2 0), (6, iV 2)]) (g' := [(1, some (30, .ds [iD 0, D.lit (.slice none 0 0)])), (2, some (28, .ds [iD 0, iD 0, iD 0, iD 0, iD 0, iD 0, D.lit (.slice none 0 0)]))]) (nx' := 4) (by kernel_rfl) trivial ?_
  refine AW.ret ?_
  exact EndP.of (.inr rfl) [] (P := ((0 : Int) = 0) ∧ ((.slice none 0 0 : Value) = .slice none 0 0) ∧ ((0 : Int) = 0) ∧ ((0 : Int) = 0) ∧ ((0 : Int) = 0) ∧ ((0 : Int) = 0) ∧ ((0 : Int) = 0) ∧ ((0 : Int) = 0) ∧ ((.slice none 0 0 : Value) = .slice none 0 0) ∧ ((2 : Int) = 2)) (by kernel_rfl) ⟨rfl, rfl, rfl, rfl, rfl, rfl, rfl, rfl, rfl, rfl⟩

set_option maxHeartbeats 4000000 in
set_option maxRecDepth 100000 in
theorem Q_FinishE4 (ch W : Nat) (n d a p f : Int) (l : List Int) (q k : Nat) (hq : List.length l = q) (hv : BV ch W l) (hp : PhV n d a p f) (hk : k ≤ 65536) (hb : 1125899906842624 < p + (mvV f (stp n a) (leftV W f (stp n a) (d * 65536) k) / (d * 65536))) : Fun 27 [.agg [iC ((ch : Nat) : Int), iC n, iC d, iC a, iC p, iC f, .d (D.sl (dI .i32 l) q)], iE ((k : Nat) : Int)] (toG []) 0 (.tup [.agg [iC 0, .d (D.lit (.slice none 0 0))], .agg [iC 0, iC 0, iC 0, iC 0, iC 0, iC 0, .d (D.lit (.slice none 0 0))], iE 2]) (toG []) 0 := by
  have hok : phB n d a p f = true := hp.ok
  have hob : okB ((ch : Nat) : Int) l = true := hv.ok
  have hbd : (1 ≤ n ∧ n ≤ 768000) ∧ (1 ≤ d ∧ d ≤ 768000) ∧ (-4096 ≤ a ∧ a ≤ 4096) ∧ (0 ≤ p ∧ p ≤ 1125899906842624) ∧ 0 ≤ f ∧ f < d * 65536 := hp.b
  have hst : 61440 ≤ stp n a ∧ stp n a ≤ 53477376000 := stp_in hp.b.1 hp.b.2.2.1
  have hc1 : 1 ≤ ch := hv.c1
  have hc8 : ch ≤ 8 := hv.c8
  have hlq : q = W * ch := hq.symm.trans hv.len
  have hbig : W * ch ≤ 524288 := hv.big
  have hfit : W ≤ 65536 := hv.fit
  have hqW : (q : Int) / (ch : Int) = W := by rw [hlq]; exact hv.quo
  have hvd : (phB n d a p f && okB ((ch : Nat) : Int) l) = true := by rw [hok, hob]; rfl
  have hlk : leftV W f (stp n a) (d * 65536) k ≤ k := (leftV_le hbd.2.2.2.2.1).1
  refine Fun.mk (n := 24) Try.func27 rfl rfl (Nat.le_of_ble_eq_true rfl) ?_
  intro cx hcx
  refine AW.rgs [.no, .no, .no, .no] [1, 2, 4, 5] [0, 1, 2] (P := True) (l' := [(1, iV ↑k), (2, rV 0 0), (4, rV 1 0), (5, rV 2 0)]) (g' := [(0, some (28, .ds [iD ↑ch, iD n, iD d, iD a, iD p, iD f, D.sl (dI .i32 l) q])), (1, some (30, .ds [iD 0, D.lit (.slice none 0 0)])), (2, some (28, .ds [iD 0, iD 0, iD 0, iD 0, iD 0, iD 0, D.lit (.slice none 0 0)]))]) (nx' := 3) (by kernel_rfl) trivial ?_
  refine AW.seq ?_
  refine AW.rgs [.no, .no, .call [] (iV 0) [] 0 [] none, .no] [1, 2, 4, 5, 7] [0, 1, 2] (P := (_)) (l' := [(1, iV ↑k), (2, rV 0 0), (4, rV 1 0), (5, rV 2 0), (7, iV 0)]) (g' := [(0, some (28, .ds [iD ↑ch, iD n, iD d, iD a, iD p, iD f, D.sl (dI .i32 l) q])), (1, some (30, .ds [iD 0, D.lit (.slice none 0 0)])), (2, some (28, .ds [iD 0, iD 0, iD 0, iD 0, iD 0, iD 0, D.lit (.slice none 0 0)]))]) (nx' := 3) (by kernel_rfl) (Q_check ch W n d a p f l q ((k : Nat) : Int) (by omega) (by first | omega | with_reducible assumption | (simp <;> omega) | rfl | assumption) (by first | omega | with_reducible assumption | (simp <;> omega) | rfl | assumption) (by omega)) ?_
  refine AW.rgs [.no, .b false] [1, 2, 4, 5, 7, 12] [0, 1, 2] (P := (¬ ((0 : Int) ≠ 0))) (l' := [(1, iV ↑k), (2, rV 0 0), (4, rV 1 0), (5, rV 2 0), (7, iV 0), (12, bV false)]) (g' := [(0, some (28, .ds [iD ↑ch, iD n, iD d, iD a, iD p, iD f, D.sl (dI .i32 l) q])), (1, some (30, .ds [iD 0, D.lit (.slice none 0 0)])), (2, some (28, .ds [iD 0, iD 0, iD 0, iD 0, iD 0, iD 0, D.lit (.slice none 0 0)]))]) (nx' := 3) (by kernel_rfl) (by omega) ?_
  refine AW.cond_f (.tmp (Look.of rfl)) ?_
  refine AW.skip ?_
  refine AW.rgs [.no, .no, .no, .call [] (iV (((leftV W f (stp n a) (d * 65536) k) : Nat) : Int)) [] 0 [] none, .call [] (.tup [.agg [iC 0, .d (D.lit (.slice none 0 0))], .agg [iC 0, iC 0, iC 0, iC 0, iC 0, iC 0, .d (D.lit (.slice none 0 0))], iE 2]) [] 0 [] none, .no, .no, .no, .no, .no, .no] [4, 5, 6] [1, 2] (P := (_) ∧ (_)) (l' := [(4, rV 1 0), (5, rV 2 0), (6, iV 2)]) (g' := [(1, some (30, .ds [iD 0, D.lit (.slice none 0 0)])), (2, some (28, .ds [iD 0, iD 0, iD 0, iD 0, iD 0, iD 0, D.lit (.slice none 0 0)]))]) (nx' := 3) (by kernel_rfl) ⟨(Q_left ch W n d a p f l q k (by omega) (by first | omega | with_reducible assumption | (simp <;> omega) | rfl | assumption) (by first | omega | with_reducible assumption | (simp <;> omega) | rfl | assumption) (by omega)), (Q_giveE ch W n d a p f l q (leftV W f (stp n a) (d * 65536) k) (by omega) (by first | omega | with_reducible assumption | (simp <;> omega) | rfl | assumption) (by first | omega | with_reducible assumption | (simp <;> omega) | rfl | assumption) (by first | omega | with_reducible assumption | (simp <;> omega) | rfl | assumption) (by first | omega | with_reducible assumption | (simp <;> omega) | rfl | assumption))⟩ ?_
  refine AW.ret ?_
  exact EndP.of (.inr rfl) [] (P := ((0 : Int) = 0) ∧ ((.slice none 0 0 : Value) = .slice none 0 0) ∧ ((0 : Int) = 0) ∧ ((0 : Int) = 0) ∧ ((0 : Int) = 0) ∧ ((0 : Int) = 0) ∧ ((0 : Int) = 0) ∧ ((0 : Int) = 0) ∧ ((.slice none 0 0 : Value) = .slice none 0 0) ∧ ((2 : Int) = 2)) (by kernel_rfl) ⟨rfl, rfl, rfl, rfl, rfl, rfl, rfl, rfl, rfl, rfl⟩

set_option maxHeartbeats 4000000 in
set_option maxRecDepth 100000 in
theorem Q_rFinish (ch W : Nat) (n d a p f : Int) (l : List Int) (q k : Nat) (hq : List.length l = q) (hv : BV ch W l) (hp : PhV n d a p f) (hk : k ≤ 65536) (hb : p + (mvV f (stp n a) (leftV W f (stp n a) (d * 65536) k) / (d * 65536)) ≤ 1125899906842624) : Fun 28 [.agg [iC ((ch : Nat) : Int), iC n, iC d, iC a, iC p, iC f, .d (D.sl (dI .i32 l) q)], iE ((k : Nat) : Int)] (toG []) 0 (.tup [.agg [iC ((ch : Nat) : Int), .own 0 0 ((leftV W f (stp n a) (d * 65536) k) * ch) 1 true], .agg [iC ((ch : Nat) : Int), iC n, iC d, iC a, iC (p + ((mvV f (stp n a) (leftV W f (stp n a) (d * 65536) k)) / (d * 65536))), iC ((mvV f (stp n a) (leftV W f (stp n a) (d * 65536) k)) % (d * 65536)), .own 1 0 (q - ((goneV W f (stp n a) (d * 65536) (leftV W f (stp n a) (d * 65536) k)) * ch)) 1 true], iE 0]) (toG [(0, some (21, .ds (dI .i32 (prV ch W l f (stp n a) (d * 65536) (leftV W f (stp n a) (d * 65536) k))))), (1, some (21, .ds (dI .i32 (List.drop ((goneV W f (stp n a) (d * 65536) (leftV W f (stp n a) (d * 65536) k)) * ch) l))))]) 2 := by
  have hok : phB n d a p f = true := hp.ok
  have hob : okB ((ch : Nat) : Int) l = true := hv.ok
  have hbd : (1 ≤ n ∧ n ≤ 768000) ∧ (1 ≤ d ∧ d ≤ 768000) ∧ (-4096 ≤ a ∧ a ≤ 4096) ∧ (0 ≤ p ∧ p ≤ 1125899906842624) ∧ 0 ≤ f ∧ f < d * 65536 := hp.b
  have hst : 61440 ≤ stp n a ∧ stp n a ≤ 53477376000 := stp_in hp.b.1 hp.b.2.2.1
  have hc1 : 1 ≤ ch := hv.c1
  have hc8 : ch ≤ 8 := hv.c8
  have hlq : q = W * ch := hq.symm.trans hv.len
  have hbig : W * ch ≤ 524288 := hv.big
  have hfit : W ≤ 65536 := hv.fit
  have hqW : (q : Int) / (ch : Int) = W := by rw [hlq]; exact hv.quo
  have hvd : (phB n d a p f && okB ((ch : Nat) : Int) l) = true := by rw [hok, hob]; rfl
  refine Fun.mk (n := 64) Try.func28 rfl rfl (Nat.le_of_ble_eq_true rfl) ?_
  intro cx hcx
  refine AW.rgs [.no, .no, .no, .no] [1, 2, 4, 5] [0, 1, 2] (P := True) (l' := [(1, iV ↑k), (2, rV 0 0), (4, rV 1 0), (5, rV 2 0)]) (g' := [(0, some (28, .ds [iD ↑ch, iD n, iD d, iD a, iD p, iD f, D.sl (dI .i32 l) q])), (1, some (30, .ds [iD 0, D.lit (.slice none 0 0)])), (2, some (28, .ds [iD 0, iD 0, iD 0, iD 0, iD 0, iD 0, D.lit (.slice none 0 0)]))]) (nx' := 3) (by kernel_rfl) trivial ?_
  refine AW.seq ?_
  refine AW.rgs [.no, .call [] (bV true) [] 0 [] none, .no] [1, 2, 4, 5, 16] [0, 1, 2] (P := (Fun 20 [.agg [iC ((ch : Nat) : Int), iC n, iC d, iC a, iC p, iC f, .d (D.sl (dI .i32 l) q)]] (toG []) 0 (bV true) (toG []) 0)) (l' := [(1, iV ↑k), (2, rV 0 0), (4, rV 1 0), (5, rV 2 0), (16, bV false)]) (g' := [(0, some (28, .ds [iD ↑ch, iD n, iD d, iD a, iD p, iD f, D.sl (dI .i32 l) q])), (1, some (30, .ds [iD 0, D.lit (.slice none 0 0)])), (2, some (28, .ds [iD 0, iD 0, iD 0, iD 0, iD 0, iD 0, D.lit (.slice none 0 0)]))]) (nx' := 3) (by kernel_rfl) (by have h0 := (Q_rValid ((ch : Nat) : Int) n d a p f l q (by omega) (by omega)); rw [hvd] at h0; exact h0) ?_
  refine AW.cond_f (.tmp (Look.of rfl)) ?_
  refine AW.skip ?_
  refine AW.seq ?_
  refine AW.rgs [.no, .b false, .no, .no, .b false, .no] [1, 2, 4, 5, 24] [0, 1, 2] (P := (¬ (((k : Nat) : Int) < 0)) ∧ (¬ ((65536 : Int) < ((k : Nat) : Int)))) (l' := [(1, iV ↑k), (2, rV 0 0), (4, rV 1 0), (5, rV 2 0), (24, bV false)]) (g' := [(0, some (28, .ds [iD ↑ch, iD n, iD d, iD a, iD p, iD f, D.sl (dI .i32 l) q])), (1, some (30, .ds [iD 0, D.lit (.slice none 0 0)])), (2, some (28, .ds [iD 0, iD 0, iD 0, iD 0, iD 0, iD 0, D.lit (.slice none 0 0)]))]) (nx' := 3) (by kernel_rfl) ⟨(by omega), (by omega)⟩ ?_
  refine AW.cond_f (.tmp (Look.of rfl)) ?_
  refine AW.skip ?_
  refine AW.rgs [.no, .call [] (iV ((W : Nat) : Int)) [] 0 [] none, .no, .no] [1, 2, 4, 5, 7, 8] [0, 1, 2] (P := (_)) (l' := [(1, iV ↑k), (2, rV 0 0), (4, rV 1 0), (5, rV 2 0), (7, iV 0), (8, iV ↑W)]) (g' := [(0, some (28, .ds [iD ↑ch, iD n, iD d, iD a, iD p, iD f, D.sl (dI .i32 l) q])), (1, some (30, .ds [iD 0, D.lit (.slice none 0 0)])), (2, some (28, .ds [iD 0, iD 0, iD 0, iD 0, iD 0, iD 0, D.lit (.slice none 0 0)]))]) (nx' := 3) (by kernel_rfl) (Q_rWaiting ch W n d a p f l q (by omega) (by first | omega | with_reducible assumption | (simp <;> omega) | rfl | assumption) (by first | omega | with_reducible assumption | (simp <;> omega) | rfl | assumption)) ?_
  refine AW.seq ?_
  refine AW.block ?_
  refine AW.loopE 0 hcx (fun (x : {x : Nat // match x with | i => (i ≤ k) ∧ (i = 0 ∨ mvV f (stp n a) (i - 1) / (d * 65536) < ((W : Nat) : Int))}) => match x with | ⟨i, _⟩ => (⟨[(1, iV ((k : Nat) : Int)), (2, rV 0 0), (4, rV 1 0), (5, rV 2 0), (7, iV ((i : Nat) : Int)), (8, iV ((W : Nat) : Int))], [(0, some (28, .ds [iD ((ch : Nat) : Int), iD n, iD d, iD a, iD p, iD f, D.sl (dI .i32 l) q])), (1, some (30, .ds [iD 0, D.lit (.slice none 0 0)])), (2, some (28, .ds [iD 0, iD 0, iD 0, iD 0, iD 0, iD 0, D.lit (.slice none 0 0)]))], 3⟩ : ES)) (fun (x : {x : Nat // match x with | i => (i ≤ k) ∧ (i = 0 ∨ mvV f (stp n a) (i - 1) / (d * 65536) < ((W : Nat) : Int))}) => match x with | ⟨i, _⟩ => k - i) ⟨(0 : Nat), (show ((0 : Nat) ≤ k) ∧ ((0 : Nat) = 0 ∨ mvV f (stp n a) ((0 : Nat) - 1) / (d * 65536) < ((W : Nat) : Int)) from ⟨(by first | omega | assumption | simp), (.inl rfl)⟩)⟩ [] (P := ((((k : Nat) : Int) : Int) = ((k : Nat) : Int)) ∧ ((0 : Nat) = 0) ∧ ((0 : Nat) = 0) ∧ ((0 : Nat) = 0) ∧ ((0 : Int) = 0) ∧ ((((W : Nat) : Int) : Int) = ((W : Nat) : Int)) ∧ (([iD ((ch : Nat) : Int), iD n, iD d, iD a, iD p, iD f, D.sl (dI .i32 l) q] : List D) = [iD ((ch : Nat) : Int), iD n, iD d, iD a, iD p, iD f, D.sl (dI .i32 l) q]) ∧ (([iD 0, D.lit (.slice none 0 0)] : List D) = [iD 0, D.lit (.slice none 0 0)]) ∧ (([iD 0, iD 0, iD 0, iD 0, iD 0, iD 0, D.lit (.slice none 0 0)] : List D) = [iD 0, iD 0, iD 0, iD 0, iD 0, iD 0, D.lit (.slice none 0 0)])) (by kernel_rfl) ⟨rfl, rfl, rfl, rfl, rfl, rfl, rfl, rfl, rfl⟩ ?_
  rintro ⟨i, hinv0⟩
  obtain ⟨hi, h1⟩ : (i ≤ k) ∧ (i = 0 ∨ mvV f (stp n a) (i - 1) / (d * 65536) < ((W : Nat) : Int)) := hinv0
  refine AW.es (l := [(1, iV ((k : Nat) : Int)), (2, rV 0 0), (4, rV 1 0), (5, rV 2 0), (7, iV ((i : Nat) : Int)), (8, iV ((W : Nat) : Int))]) (g := [(0, some (28, .ds [iD ((ch : Nat) : Int), iD n, iD d, iD a, iD p, iD f, D.sl (dI .i32 l) q])), (1, some (30, .ds [iD 0, D.lit (.slice none 0 0)])), (2, some (28, .ds [iD 0, iD 0, iD 0, iD 0, iD 0, iD 0, D.lit (.slice none 0 0)]))]) (nx := 3) rfl rfl rfl ?_
  refine AW.seq ?_
  by_cases hx1 : (((i : Nat) : Int) < ((k : Nat) : Int))
  · refine AW.rgs [.no, .no, .b true] [1, 2, 4, 5, 7, 8, 31] [0, 1, 2] (P := ((((i : Nat) : Int) < ((k : Nat) : Int)))) (l' := [(1, iV ↑k), (2, rV 0 0), (4, rV 1 0), (5, rV 2 0), (7, iV ↑i), (8, iV ↑W), (31, bV true)]) (g' := [(0, some (28, .ds [iD ↑ch, iD n, iD d, iD a, iD p, iD f, D.sl (dI .i32 l) q])), (1, some (30, .ds [iD 0, D.lit (.slice none 0 0)])), (2, some (28, .ds [iD 0, iD 0, iD 0, iD 0, iD 0, iD 0, D.lit (.slice none 0 0)]))]) (nx' := 3) (by kernel_rfl) (by omega) ?_
    refine AW.cond_t (.tmp (Look.of rfl)) ?_
    refine AW.skip ?_
    refine AW.block ?_
    refine AW.seq ?_
    have hx2 : (((0 : Int) ≤ ((mvV f (stp n a) i) / (d * 65536))) ∧ ((((mvV f (stp n a) i) / (d * 65536)) ≤ 3600000000000000) ∧ (((0 : Int) ≤ ((mvV f (stp n a) i) % (d * 65536))) ∧ (((mvV f (stp n a) i) % (d * 65536)) < (d * 65536))))) := (by have h9 := PhV.b (show PhV n d a p f by assumption); have h8 := stp_in h9.1 h9.2.2.1; have h7 := @mv_in f (stp n a) i (show 0 ≤ f ∧ f < 50331648000 by omega) (show 0 ≤ stp n a ∧ stp n a ≤ 53477376000 by omega) (by omega); have h6 := quo_in h7.1 (show 0 < d * 65536 by omega); omega)
    refine AW.rgs [.no, .no, .no, .call [] (.tup [iE (p + ((mvV f (stp n a) i) / (d * 65536))), iE ((mvV f (stp n a) i) % (d * 65536)), iE 0]) [] 0 [] none, .no, .no, .no, .no, .no, .no, .no] [1, 2, 4, 5, 7, 8, 9] [0, 1, 2] (P := (_)) (l' := [(1, iV ↑k), (2, rV 0 0), (4, rV 1 0), (5, rV 2 0), (7, iV ↑i), (8, iV ↑W), (9, iV (p + ((mvV f (stp n a) i) / (d * 65536))))]) (g' := [(0, some (28, .ds [iD ↑ch, iD n, iD d, iD a, iD p, iD f, D.sl (dI .i32 l) q])), (1, some (30, .ds [iD 0, D.lit (.slice none 0 0)])), (2, some (28, .ds [iD 0, iD 0, iD 0, iD 0, iD 0, iD 0, D.lit (.slice none 0 0)]))]) (nx' := 3) (by kernel_rfl) (P_rAt n d a p f i (by first | omega | with_reducible assumption | (simp <;> omega) | rfl | assumption) (by omega)) ?_
    by_cases hx3 : (((W : Nat) : Int) ≤ ((p + ((mvV f (stp n a) i) / (d * 65536))) - p))
    · obtain rfl : i = (leftV W f (stp n a) (d * 65536) k) := (left_is (by omega) (by omega) (by omega) (by first | assumption | omega) (by omega)).symm
      have hlk : leftV W f (stp n a) (d * 65536) k ≤ k ∧ (leftV W f (stp n a) (d * 65536) k = 0 ∨ 1 ≤ W) := leftV_le hbd.2.2.2.2.1
      refine AW.rgs [.no, .no, .no, .no, .w, .no, .b true] [1, 2, 4, 5, 7, 8, 46] [0, 1, 2] (P := ((-9223372036854775808) ≤ ((p + ((mvV f (stp n a) (leftV W f (stp n a) (d * 65536) k)) / (d * 65536))) - p) ∧ ((p + ((mvV f (stp n a) (leftV W f (stp n a) (d * 65536) k)) / (d * 65536))) - p) ≤ 9223372036854775807) ∧ ((((W : Nat) : Int) ≤ ((p + ((mvV f (stp n a) (leftV W f (stp n a) (d * 65536) k)) / (d * 65536))) - p)))) (l' := [(1, iV ↑k), (2, rV 0 0), (4, rV 1 0), (5, rV 2 0), (7, iV (((leftV W f (stp n a) (d * 65536) k) : Nat) : Int)), (8, iV ↑W), (46, bV true)]) (g' := [(0, some (28, .ds [iD ↑ch, iD n, iD d, iD a, iD p, iD f, D.sl (dI .i32 l) q])), (1, some (30, .ds [iD 0, D.lit (.slice none 0 0)])), (2, some (28, .ds [iD 0, iD 0, iD 0, iD 0, iD 0, iD 0, D.lit (.slice none 0 0)]))]) (nx' := 3) (by kernel_rfl) ⟨⟨by omega, by omega⟩, (by omega)⟩ ?_
      refine AW.cond_t (.tmp (Look.of rfl)) ?_
      refine AW.exit ?_
      refine AW.rgs [.no, .no, .call [] (.tup [.agg [iC ((ch : Nat) : Int), iC n, iC d, iC a, iC (p + ((mvV f (stp n a) (leftV W f (stp n a) (d * 65536) k)) / (d * 65536))), iC ((mvV f (stp n a) (leftV W f (stp n a) (d * 65536) k)) % (d * 65536)), .own 0 0 (q - ((goneV W f (stp n a) (d * 65536) (leftV W f (stp n a) (d * 65536) k)) * ch)) 1 true], iE 0]) [(0, some (21, .ds (dI .i32 (List.drop ((goneV W f (stp n a) (d * 65536) (leftV W f (stp n a) (d * 65536) k)) * ch) l))))] 1 [] none, .no, .no, .no, .no, .no, .no] [2, 4, 5, 7, 12, 13] [0, 1, 2, 3, 4] (P := (_)) (l' := [(2, rV 0 0), (4, rV 1 0), (5, rV 2 0), (7, iV (((leftV W f (stp n a) (d * 65536) k) : Nat) : Int)), (12, rV 4 0), (13, iV 0)]) (g' := [(0, some (28, .ds [iD ↑ch, iD n, iD d, iD a, iD p, iD f, D.sl (dI .i32 l) q])), (1, some (30, .ds [iD 0, D.lit (.slice none 0 0)])), (2, some (28, .ds [iD 0, iD 0, iD 0, iD 0, iD 0, iD 0, D.lit (.slice none 0 0)])), (3, some (21, .ds (dI .i32 (List.drop ((goneV W f (stp n a) (d * 65536) (leftV W f (stp n a) (d * 65536) k)) * ch) l)))), (4, some (28, .cs [iC ↑ch, iC n, iC d, iC a, iC (p + ((mvV f (stp n a) (leftV W f (stp n a) (d * 65536) k)) / (d * 65536))), iC ((mvV f (stp n a) (leftV W f (stp n a) (d * 65536) k)) % (d * 65536)), .own 3 0 (q - ((goneV W f (stp n a) (d * 65536) (leftV W f (stp n a) (d * 65536) k)) * ch)) 1 true]))]) (nx' := 5) (by kernel_rfl) (Q_rpassed ch W n d a p f l q (leftV W f (stp n a) (d * 65536) k) (by omega) (by first | omega | with_reducible assumption | (simp <;> omega) | rfl | assumption) (by first | omega | with_reducible assumption | (simp <;> omega) | rfl | assumption) (by first | omega | with_reducible assumption | (simp <;> omega) | rfl | assumption) (by first | omega | with_reducible assumption | (simp <;> omega) | rfl | assumption)) ?_
      refine AW.seq ?_
      refine AW.rgs [.no, .b false] [2, 4, 5, 7, 12, 13, 56] [0, 1, 2, 3, 4] (P := (¬ ((0 : Int) ≠ 0))) (l' := [(2, rV 0 0), (4, rV 1 0), (5, rV 2 0), (7, iV (((leftV W f (stp n a) (d * 65536) k) : Nat) : Int)), (12, rV 4 0), (13, iV 0), (56, bV false)]) (g' := [(0, some (28, .ds [iD ↑ch, iD n, iD d, iD a, iD p, iD f, D.sl (dI .i32 l) q])), (1, some (30, .ds [iD 0, D.lit (.slice none 0 0)])), (2, some (28, .ds [iD 0, iD 0, iD 0, iD 0, iD 0, iD 0, D.lit (.slice none 0 0)])), (3, some (21, .ds (dI .i32 (List.drop ((goneV W f (stp n a) (d * 65536) (leftV W f (stp n a) (d * 65536) k)) * ch) l)))), (4, some (28, .cs [iC ↑ch, iC n, iC d, iC a, iC (p + ((mvV f (stp n a) (leftV W f (stp n a) (d * 65536) k)) / (d * 65536))), iC ((mvV f (stp n a) (leftV W f (stp n a) (d * 65536) k)) % (d * 65536)), .own 3 0 (q - ((goneV W f (stp n a) (d * 65536) (leftV W f (stp n a) (d * 65536) k)) * ch)) 1 true]))]) (nx' := 5) (by kernel_rfl) (by omega) ?_
      refine AW.cond_f (.tmp (Look.of rfl)) ?_
      refine AW.skip ?_
      refine AW.rgs [.no, .no, .call [] (.e (.agg [iC ((ch : Nat) : Int), .own 0 0 ((leftV W f (stp n a) (d * 65536) k) * ch) 1 true])) [(0, some (21, .ds (dI .i32 (prV ch W l f (stp n a) (d * 65536) (leftV W f (stp n a) (d * 65536) k)))))] 1 [] none, .no, .no, .no, .no] [4, 5, 6] [1, 2, 3, 5] (P := (_)) (l' := [(4, rV 1 0), (5, rV 2 0), (6, iV 0)]) (g' := [(1, some (30, .cs [iC ↑ch, .own 5 0 ((leftV W f (stp n a) (d * 65536) k) * ch) 1 true])), (2, some (28, .cs [iC ↑ch, iC n, iC d, iC a, iC (p + ((mvV f (stp n a) (leftV W f (stp n a) (d * 65536) k)) / (d * 65536))), iC ((mvV f (stp n a) (leftV W f (stp n a) (d * 65536) k)) % (d * 65536)), .own 3 0 (q - ((goneV W f (stp n a) (d * 65536) (leftV W f (stp n a) (d * 65536) k)) * ch)) 1 true])), (3, some (21, .ds (dI .i32 (List.drop ((goneV W f (stp n a) (d * 65536) (leftV W f (stp n a) (d * 65536) k)) * ch) l)))), (5, some (21, .ds (dI .i32 (prV ch W l f (stp n a) (d * 65536) (leftV W f (stp n a) (d * 65536) k)))))]) (nx' := 6) (by kernel_rfl) (Q_rframes ch W n d a p f l q (leftV W f (stp n a) (d * 65536) k) (by omega) (by first | omega | with_reducible assumption | (simp <;> omega) | rfl | assumption) (by first | omega | with_reducible assumption | (simp <;> omega) | rfl | assumption) (by first | omega | with_reducible assumption | (simp <;> omega) | rfl | assumption) (by first | omega | with_reducible assumption | (simp <;> omega) | rfl | assumption)) ?_
      refine AW.ret ?_
      exact EndP.of (.inr rfl) [(0, 5), (1, 3)] (P := ((((ch : Nat) : Int) : Int) = ((ch : Nat) : Int)) ∧ ((0 : Nat) = 0) ∧ ((((leftV W f (stp n a) (d * 65536) k) * ch) : Nat) = ((leftV W f (stp n a) (d * 65536) k) * ch)) ∧ ((((ch : Nat) : Int) : Int) = ((ch : Nat) : Int)) ∧ ((n : Int) = n) ∧ ((d : Int) = d) ∧ ((a : Int) = a) ∧ (((p + ((mvV f (stp n a) (leftV W f (stp n a) (d * 65536) k)) / (d * 65536))) : Int) = (p + ((mvV f (stp n a) (leftV W f (stp n a) (d * 65536) k)) / (d * 65536)))) ∧ ((((mvV f (stp n a) (leftV W f (stp n a) (d * 65536) k)) % (d * 65536)) : Int) = ((mvV f (stp n a) (leftV W f (stp n a) (d * 65536) k)) % (d * 65536))) ∧ ((0 : Nat) = 0) ∧ (((q - ((goneV W f (stp n a) (d * 65536) (leftV W f (stp n a) (d * 65536) k)) * ch)) : Nat) = (q - ((goneV W f (stp n a) (d * 65536) (leftV W f (stp n a) (d * 65536) k)) * ch))) ∧ ((0 : Int) = 0) ∧ (((dI .i32 (prV ch W l f (stp n a) (d * 65536) (leftV W f (stp n a) (d * 65536) k))) : List D) = (dI .i32 (prV ch W l f (stp n a) (d * 65536) (leftV W f (stp n a) (d * 65536) k)))) ∧ (((dI .i32 (List.drop ((goneV W f (stp n a) (d * 65536) (leftV W f (stp n a) (d * 65536) k)) * ch) l)) : List D) = (dI .i32 (List.drop ((goneV W f (stp n a) (d * 65536) (leftV W f (stp n a) (d * 65536) k)) * ch) l)))) (by kernel_rfl) ⟨rfl, rfl, rfl, rfl, rfl, rfl, rfl, rfl, rfl, rfl, rfl, rfl, rfl, rfl⟩
    · refine AW.rgs [.no, .no, .no, .no, .w, .no, .b false] [1, 2, 4, 5, 7, 8, 46] [0, 1, 2] (P := ((-9223372036854775808) ≤ ((p + ((mvV f (stp n a) i) / (d * 65536))) - p) ∧ ((p + ((mvV f (stp n a) i) / (d * 65536))) - p) ≤ 9223372036854775807) ∧ (¬ (((W : Nat) : Int) ≤ ((p + ((mvV f (stp n a) i) / (d * 65536))) - p)))) (l' := [(1, iV ↑k), (2, rV 0 0), (4, rV 1 0), (5, rV 2 0), (7, iV ↑i), (8, iV ↑W), (46, bV false)]) (g' := [(0, some (28, .ds [iD ↑ch, iD n, iD d, iD a, iD p, iD f, D.sl (dI .i32 l) q])), (1, some (30, .ds [iD 0, D.lit (.slice none 0 0)])), (2, some (28, .ds [iD 0, iD 0, iD 0, iD 0, iD 0, iD 0, D.lit (.slice none 0 0)]))]) (nx' := 3) (by kernel_rfl) ⟨⟨by omega, by omega⟩, (by omega)⟩ ?_
      refine AW.cond_f (.tmp (Look.of rfl)) ?_
      refine AW.skip ?_
      refine AW.rg [.no, .w, .no] [1, 2, 4, 5, 7, 8] [0, 1, 2] (P := ((-9223372036854775808) ≤ (((i : Nat) : Int) + 1) ∧ (((i : Nat) : Int) + 1) ≤ 9223372036854775807)) (l' := [(1, iV ↑k), (2, rV 0 0), (4, rV 1 0), (5, rV 2 0), (7, iV (↑i + 1)), (8, iV ↑W)]) (g' := [(0, some (28, .ds [iD ↑ch, iD n, iD d, iD a, iD p, iD f, D.sl (dI .i32 l) q])), (1, some (30, .ds [iD 0, D.lit (.slice none 0 0)])), (2, some (28, .ds [iD 0, iD 0, iD 0, iD 0, iD 0, iD 0, D.lit (.slice none 0 0)]))]) (nx' := 3) (by kernel_rfl) ⟨by omega, by omega⟩ ?_
      exact Rd.of ⟨((i + 1) : Nat), (show ((i + 1) ≤ k) ∧ ((i + 1) = 0 ∨ mvV f (stp n a) ((i + 1) - 1) / (d * 65536) < ((W : Nat) : Int)) from ⟨(by first | omega | assumption | simp), (.inr (by rw [Nat.add_sub_cancel]; omega))⟩)⟩ [] (P := ((((k : Nat) : Int) : Int) = ((k : Nat) : Int)) ∧ ((0 : Nat) = 0) ∧ ((0 : Nat) = 0) ∧ ((0 : Nat) = 0) ∧ (((((i + 1) : Nat) : Int) : Int) = (((i : Nat) : Int) + 1)) ∧ ((((W : Nat) : Int) : Int) = ((W : Nat) : Int)) ∧ (([iD ((ch : Nat) : Int), iD n, iD d, iD a, iD p, iD f, D.sl (dI .i32 l) q] : List D) = [iD ((ch : Nat) : Int), iD n, iD d, iD a, iD p, iD f, D.sl (dI .i32 l) q]) ∧ (([iD 0, D.lit (.slice none 0 0)] : List D) = [iD 0, D.lit (.slice none 0 0)]) ∧ (([iD 0, iD 0, iD 0, iD 0, iD 0, iD 0, D.lit (.slice none 0 0)] : List D) = [iD 0, iD 0, iD 0, iD 0, iD 0, iD 0, D.lit (.slice none 0 0)])) (by kernel_rfl) ⟨rfl, rfl, rfl, rfl, (by first | rfl | omega | assumption | (simp; done) | (simp; omega)), rfl, rfl, rfl, rfl⟩ (show k - (i + 1) < k - i from (by first | omega | (show _ < _; simp; omega)))
  · obtain rfl : i = (leftV W f (stp n a) (d * 65536) k) := (left_is (by omega) (by omega) (by omega) (by first | assumption | omega) (by omega)).symm
    have hlk : leftV W f (stp n a) (d * 65536) k ≤ k ∧ (leftV W f (stp n a) (d * 65536) k = 0 ∨ 1 ≤ W) := leftV_le hbd.2.2.2.2.1
    refine AW.rgs [.no, .no, .b false] [1, 2, 4, 5, 7, 8, 31] [0, 1, 2] (P := (¬ ((((leftV W f (stp n a) (d * 65536) k) : Nat) : Int) < ((k : Nat) : Int)))) (l' := [(1, iV ↑k), (2, rV 0 0), (4, rV 1 0), (5, rV 2 0), (7, iV (((leftV W f (stp n a) (d * 65536) k) : Nat) : Int)), (8, iV ↑W), (31, bV false)]) (g' := [(0, some (28, .ds [iD ↑ch, iD n, iD d, iD a, iD p, iD f, D.sl (dI .i32 l) q])), (1, some (30, .ds [iD 0, D.lit (.slice none 0 0)])), (2, some (28, .ds [iD 0, iD 0, iD 0, iD 0, iD 0, iD 0, D.lit (.slice none 0 0)]))]) (nx' := 3) (by kernel_rfl) (by omega) ?_
    refine AW.cond_f (.tmp (Look.of rfl)) ?_
    refine AW.exit ?_
    refine AW.rgs [.no, .no, .call [] (.tup [.agg [iC ((ch : Nat) : Int), iC n, iC d, iC a, iC (p + ((mvV f (stp n a) (leftV W f (stp n a) (d * 65536) k)) / (d * 65536))), iC ((mvV f (stp n a) (leftV W f (stp n a) (d * 65536) k)) % (d * 65536)), .own 0 0 (q - ((goneV W f (stp n a) (d * 65536) (leftV W f (stp n a) (d * 65536) k)) * ch)) 1 true], iE 0]) [(0, some (21, .ds (dI .i32 (List.drop ((goneV W f (stp n a) (d * 65536) (leftV W f (stp n a) (d * 65536) k)) * ch) l))))] 1 [] none, .no, .no, .no, .no, .no, .no] [2, 4, 5, 7, 12, 13] [0, 1, 2, 3, 4] (P := (_)) (l' := [(2, rV 0 0), (4, rV 1 0), (5, rV 2 0), (7, iV (((leftV W f (stp n a) (d * 65536) k) : Nat) : Int)), (12, rV 4 0), (13, iV 0)]) (g' := [(0, some (28, .ds [iD ↑ch, iD n, iD d, iD a, iD p, iD f, D.sl (dI .i32 l) q])), (1, some (30, .ds [iD 0, D.lit (.slice none 0 0)])), (2, some (28, .ds [iD 0, iD 0, iD 0, iD 0, iD 0, iD 0, D.lit (.slice none 0 0)])), (3, some (21, .ds (dI .i32 (List.drop ((goneV W f (stp n a) (d * 65536) (leftV W f (stp n a) (d * 65536) k)) * ch) l)))), (4, some (28, .cs [iC ↑ch, iC n, iC d, iC a, iC (p + ((mvV f (stp n a) (leftV W f (stp n a) (d * 65536) k)) / (d * 65536))), iC ((mvV f (stp n a) (leftV W f (stp n a) (d * 65536) k)) % (d * 65536)), .own 3 0 (q - ((goneV W f (stp n a) (d * 65536) (leftV W f (stp n a) (d * 65536) k)) * ch)) 1 true]))]) (nx' := 5) (by kernel_rfl) (Q_rpassed ch W n d a p f l q (leftV W f (stp n a) (d * 65536) k) (by omega) (by first | omega | with_reducible assumption | (simp <;> omega) | rfl | assumption) (by first | omega | with_reducible assumption | (simp <;> omega) | rfl | assumption) (by first | omega | with_reducible assumption | (simp <;> omega) | rfl | assumption) (by first | omega | with_reducible assumption | (simp <;> omega) | rfl | assumption)) ?_
    refine AW.seq ?_
    refine AW.rgs [.no, .b false] [2, 4, 5, 7, 12, 13, 56] [0, 1, 2, 3, 4] (P := (¬ ((0 : Int) ≠ 0))) (l' := [(2, rV 0 0), (4, rV 1 0), (5, rV 2 0), (7, iV (((leftV W f (stp n a) (d * 65536) k) : Nat) : Int)), (12, rV 4 0), (13, iV 0), (56, bV false)]) (g' := [(0, some (28, .ds [iD ↑ch, iD n, iD d, iD a, iD p, iD f, D.sl (dI .i32 l) q])), (1, some (30, .ds [iD 0, D.lit (.slice none 0 0)])), (2, some (28, .ds [iD 0, iD 0, iD 0, iD 0, iD 0, iD 0, D.lit (.slice none 0 0)])), (3, some (21, .ds (dI .i32 (List.drop ((goneV W f (stp n a) (d * 65536) (leftV W f (stp n a) (d * 65536) k)) * ch) l)))), (4, some (28, .cs [iC ↑ch, iC n, iC d, iC a, iC (p + ((mvV f (stp n a) (leftV W f (stp n a) (d * 65536) k)) / (d * 65536))), iC ((mvV f (stp n a) (leftV W f (stp n a) (d * 65536) k)) % (d * 65536)), .own 3 0 (q - ((goneV W f (stp n a) (d * 65536) (leftV W f (stp n a) (d * 65536) k)) * ch)) 1 true]))]) (nx' := 5) (by kernel_rfl) (by omega) ?_
    refine AW.cond_f (.tmp (Look.of rfl)) ?_
    refine AW.skip ?_
    refine AW.rgs [.no, .no, .call [] (.e (.agg [iC ((ch : Nat) : Int), .own 0 0 ((leftV W f (stp n a) (d * 65536) k) * ch) 1 true])) [(0, some (21, .ds (dI .i32 (prV ch W l f (stp n a) (d * 65536) (leftV W f (stp n a) (d * 65536) k)))))] 1 [] none, .no, .no, .no, .no] [4, 5, 6] [1, 2, 3, 5] (P := (_)) (l' := [(4, rV 1 0), (5, rV 2 0), (6, iV 0)]) (g' := [(1, some (30, .cs [iC ↑ch, .own 5 0 ((leftV W f (stp n a) (d * 65536) k) * ch) 1 true])), (2, some (28, .cs [iC ↑ch, iC n, iC d, iC a, iC (p + ((mvV f (stp n a) (leftV W f (stp n a) (d * 65536) k)) / (d * 65536))), iC ((mvV f (stp n a) (leftV W f (stp n a) (d * 65536) k)) % (d * 65536)), .own 3 0 (q - ((goneV W f (stp n a) (d * 65536) (leftV W f (stp n a) (d * 65536) k)) * ch)) 1 true])), (3, some (21, .ds (dI .i32 (List.drop ((goneV W f (stp n a) (d * 65536) (leftV W f (stp n a) (d * 65536) k)) * ch) l)))), (5, some (21, .ds (dI .i32 (prV ch W l f (stp n a) (d * 65536) (leftV W f (stp n a) (d * 65536) k)))))]) (nx' := 6) (by kernel_rfl) (Q_rframes ch W n d a p f l q (leftV W f (stp n a) (d * 65536) k) (by omega) (by first | omega | with_reducible assumption | (simp <;> omega) | rfl | assumption) (by first | omega | with_reducible assumption | (simp <;> omega) | rfl | assumption) (by first | omega | with_reducible assumption | (simp <;> omega) | rfl | assumption) (by first | omega | with_reducible assumption | (simp <;> omega) | rfl | assumption)) ?_
    refine AW.ret ?_
    exact EndP.of (.inr rfl) [(0, 5), (1, 3)] (P := ((((ch : Nat) : Int) : Int) = ((ch : Nat) : Int)) ∧ ((0 : Nat) = 0) ∧ ((((leftV W f (stp n a) (d * 65536) k) * ch) : Nat) = ((leftV W f (stp n a) (d * 65536) k) * ch)) ∧ ((((ch : Nat) : Int) : Int) = ((ch : Nat) : Int)) ∧ ((n : Int) = n) ∧ ((d : Int) = d) ∧ ((a : Int) = a) ∧ (((p + ((mvV f (stp n a) (leftV W f (stp n a) (d * 65536) k)) / (d * 65536))) : Int) = (p + ((mvV f (stp n a) (leftV W f (stp n a) (d * 65536) k)) / (d * 65536)))) ∧ ((((mvV f (stp n a) (leftV W f (stp n a) (d * 65536) k)) % (d * 65536)) : Int) = ((mvV f (stp n a) (leftV W f (stp n a) (d * 65536) k)) % (d * 65536))) ∧ ((0 : Nat) = 0) ∧ (((q - ((goneV W f (stp n a) (d * 65536) (leftV W f (stp n a) (d * 65536) k)) * ch)) : Nat) = (q - ((goneV W f (stp n a) (d * 65536) (leftV W f (stp n a) (d * 65536) k)) * ch))) ∧ ((0 : Int) = 0) ∧ (((dI .i32 (prV ch W l f (stp n a) (d * 65536) (leftV W f (stp n a) (d * 65536) k))) : List D) = (dI .i32 (prV ch W l f (stp n a) (d * 65536) (leftV W f (stp n a) (d * 65536) k)))) ∧ (((dI .i32 (List.drop ((goneV W f (stp n a) (d * 65536) (leftV W f (stp n a) (d * 65536) k)) * ch) l)) : List D) = (dI .i32 (List.drop ((goneV W f (stp n a) (d * 65536) (leftV W f (stp n a) (d * 65536) k)) * ch) l)))) (by kernel_rfl) ⟨rfl, rfl, rfl, rfl, rfl, rfl, rfl, rfl, rfl, rfl, rfl, rfl, rfl, rfl⟩

set_option maxHeartbeats 4000000 in
set_option maxRecDepth 100000 in
theorem Q_rFinishE4 (ch W : Nat) (n d a p f : Int) (l : List Int) (q k : Nat) (hq : List.length l = q) (hv : BV ch W l) (hp : PhV n d a p f) (hk : k ≤ 65536) (hb : 1125899906842624 < p + (mvV f (stp n a) (leftV W f (stp n a) (d * 65536) k) / (d * 65536))) : Fun 28 [.agg [iC ((ch : Nat) : Int), iC n, iC d, iC a, iC p, iC f, .d (D.sl (dI .i32 l) q)], iE ((k : Nat) : Int)] (toG []) 0 (.tup [.agg [iC 0, .d (D.lit (.slice none 0 0))], .agg [iC 0, iC 0, iC 0, iC 0, iC 0, iC 0, .d (D.lit (.slice none 0 0))], iE 2]) (toG []) 0 := by
  have hok : phB n d a p f = true := hp.ok
  have hob : okB ((ch : Nat) : Int) l = true := hv.ok
  have hbd : (1 ≤ n ∧ n ≤ 768000) ∧ (1 ≤ d ∧ d ≤ 768000) ∧ (-4096 ≤ a ∧ a ≤ 4096) ∧ (0 ≤ p ∧ p ≤ 1125899906842624) ∧ 0 ≤ f ∧ f < d * 65536 := hp.b
  have hst : 61440 ≤ stp n a ∧ stp n a ≤ 53477376000 := stp_in hp.b.1 hp.b.2.2.1
  have hc1 : 1 ≤ ch := hv.c1
  have hc8 : ch ≤ 8 := hv.c8
  have hlq : q = W * ch := hq.symm.trans hv.len
  have hbig : W * ch ≤ 524288 := hv.big
  have hfit : W ≤ 65536 := hv.fit
  have hqW : (q : Int) / (ch : Int) = W := by rw [hlq]; exact hv.quo
  have hvd : (phB n d a p f && okB ((ch : Nat) : Int) l) = true := by rw [hok, hob]; rfl
  refine Fun.mk (n := 64) Try.func28 rfl rfl (Nat.le_of_ble_eq_true rfl) ?_
  intro cx hcx
  refine AW.rgs [.no, .no, .no, .no] [1, 2, 4, 5] [0, 1, 2] (P := True) (l' := [(1, iV ↑k), (2, rV 0 0), (4, rV 1 0), (5, rV 2 0)]) (g' := [(0, some (28, .ds [iD ↑ch, iD n, iD d, iD a, iD p, iD f, D.sl (dI .i32 l) q])), (1, some (30, .ds [iD 0, D.lit (.slice none 0 0)])), (2, some (28, .ds [iD 0, iD 0, iD 0, iD 0, iD 0, iD 0, D.lit (.slice none 0 0)]))]) (nx' := 3) (by kernel_rfl) trivial ?_
  refine AW.seq ?_
  refine AW.rgs [.no, .call [] (bV true) [] 0 [] none, .no] [1, 2, 4, 5, 16] [0, 1, 2] (P := (Fun 20 [.agg [iC ((ch : Nat) : Int), iC n, iC d, iC a, iC p, iC f, .d (D.sl (dI .i32 l) q)]] (toG []) 0 (bV true) (toG []) 0)) (l' := [(1, iV ↑k), (2, rV 0 0), (4, rV 1 0), (5, rV 2 0), (16, bV false)]) (g' := [(0, some (28, .ds [iD ↑ch, iD n, iD d, iD a, iD p, iD f, D.sl (dI .i32 l) q])), (1, some (30, .ds [iD 0, D.lit (.slice none 0 0)])), (2, some (28, .ds [iD 0, iD 0, iD 0, iD 0, iD 0, iD 0, D.lit (.slice none 0 0)]))]) (nx' := 3) (by kernel_rfl) (by have h0 := (Q_rValid ((ch : Nat) : Int) n d a p f l q (by omega) (by omega)); rw [hvd] at h0; exact h0) ?_
  refine AW.cond_f (.tmp (Look.of rfl)) ?_
  refine AW.skip ?_
  refine AW.seq ?_
  refine AW.rgs [.no, .b false, .no, .no, .b false, .no] [1, 2, 4, 5, 24] [0, 1, 2] (P := (¬ (((k : Nat) : Int) < 0)) ∧ (¬ ((65536 : Int) < ((k : Nat) : Int)))) (l' := [(1, iV ↑k), (2, rV 0 0), (4, rV 1 0), (5, rV 2 0), (24, bV false)]) (g' := [(0, some (28, .ds [iD ↑ch, iD n, iD d, iD a, iD p, iD f, D.sl (dI .i32 l) q])), (1, some (30, .ds [iD 0, D.lit (.slice none 0 0)])), (2, some (28, .ds [iD 0, iD 0, iD 0, iD 0, iD 0, iD 0, D.lit (.slice none 0 0)]))]) (nx' := 3) (by kernel_rfl) ⟨(by omega), (by omega)⟩ ?_
  refine AW.cond_f (.tmp (Look.of rfl)) ?_
  refine AW.skip ?_
  refine AW.rgs [.no, .call [] (iV ((W : Nat) : Int)) [] 0 [] none, .no, .no] [1, 2, 4, 5, 7, 8] [0, 1, 2] (P := (_)) (l' := [(1, iV ↑k), (2, rV 0 0), (4, rV 1 0), (5, rV 2 0), (7, iV 0), (8, iV ↑W)]) (g' := [(0, some (28, .ds [iD ↑ch, iD n, iD d, iD a, iD p, iD f, D.sl (dI .i32 l) q])), (1, some (30, .ds [iD 0, D.lit (.slice none 0 0)])), (2, some (28, .ds [iD 0, iD 0, iD 0, iD 0, iD 0, iD 0, D.lit (.slice none 0 0)]))]) (nx' := 3) (by kernel_rfl) (Q_rWaiting ch W n d a p f l q (by omega) (by first | omega | with_reducible assumption | (simp <;> omega) | rfl | assumption) (by first | omega | with_reducible assumption | (simp <;> omega) | rfl | assumption)) ?_
  refine AW.seq ?_
  refine AW.block ?_
  refine AW.loopE 0 hcx (fun (x : {x : Nat // match x with | i => (i ≤ k) ∧ (i = 0 ∨ mvV f (stp n a) (i - 1) / (d * 65536) < ((W : Nat) : Int))}) => match x with | ⟨i, _⟩ => (⟨[(1, iV ((k : Nat) : Int)), (2, rV 0 0), (4, rV 1 0), (5, rV 2 0), (7, iV ((i : Nat) : Int)), (8, iV ((W : Nat) : Int))], [(0, some (28, .ds [iD ((ch : Nat) : Int), iD n, iD d, iD a, iD p, iD f, D.sl (dI .i32 l) q])), (1, some (30, .ds [iD 0, D.lit (.slice none 0 0)])), (2, some (28, .ds [iD 0, iD 0, iD 0, iD 0, iD 0, iD 0, D.lit (.slice none 0 0)]))], 3⟩ : ES)) (fun (x : {x : Nat // match x with | i => (i ≤ k) ∧ (i = 0 ∨ mvV f (stp n a) (i - 1) / (d * 65536) < ((W : Nat) : Int))}) => match x with | ⟨i, _⟩ => k - i) ⟨(0 : Nat), (show ((0 : Nat) ≤ k) ∧ ((0 : Nat) = 0 ∨ mvV f (stp n a) ((0 : Nat) - 1) / (d * 65536) < ((W : Nat) : Int)) from ⟨(by first | omega | assumption | simp), (.inl rfl)⟩)⟩ [] (P := ((((k : Nat) : Int) : Int) = ((k : Nat) : Int)) ∧ ((0 : Nat) = 0) ∧ ((0 : Nat) = 0) ∧ ((0 : Nat) = 0) ∧ ((0 : Int) = 0) ∧ ((((W : Nat) : Int) : Int) = ((W : Nat) : Int)) ∧ (([iD ((ch : Nat) : Int), iD n, iD d, iD a, iD p, iD f, D.sl (dI .i32 l) q] : List D) = [iD ((ch : Nat) : Int), iD n, iD d, iD a, iD p, iD f, D.sl (dI .i32 l) q]) ∧ (([iD 0, D.lit (.slice none 0 0)] : List D) = [iD 0, D.lit (.slice none 0 0)]) ∧ (([iD 0, iD 0, iD 0, iD 0, iD 0, iD 0, D.lit (.slice none 0 0)] : List D) = [iD 0, iD 0, iD 0, iD 0, iD 0, iD 0, D.lit (.slice none 0 0)])) (by kernel_rfl) ⟨rfl, rfl, rfl, rfl, rfl, rfl, rfl, rfl, rfl⟩ ?_
  rintro ⟨i, hinv0⟩
  obtain ⟨hi, h1⟩ : (i ≤ k) ∧ (i = 0 ∨ mvV f (stp n a) (i - 1) / (d * 65536) < ((W : Nat) : Int)) := hinv0
  refine AW.es (l := [(1, iV ((k : Nat) : Int)), (2, rV 0 0), (4, rV 1 0), (5, rV 2 0), (7, iV ((i : Nat) : Int)), (8, iV ((W : Nat) : Int))]) (g := [(0, some (28, .ds [iD ((ch : Nat) : Int), iD n, iD d, iD a, iD p, iD f, D.sl (dI .i32 l) q])), (1, some (30, .ds [iD 0, D.lit (.slice none 0 0)])), (2, some (28, .ds [iD 0, iD 0, iD 0, iD 0, iD 0, iD 0, D.lit (.slice none 0 0)]))]) (nx := 3) rfl rfl rfl ?_
  refine AW.seq ?_
  by_cases hx1 : (((i : Nat) : Int) < ((k : Nat) : Int))
  · refine AW.rgs [.no, .no, .b true] [1, 2, 4, 5, 7, 8, 31] [0, 1, 2] (P := ((((i : Nat) : Int) < ((k : Nat) : Int)))) (l' := [(1, iV ↑k), (2, rV 0 0), (4, rV 1 0), (5, rV 2 0), (7, iV ↑i), (8, iV ↑W), (31, bV true)]) (g' := [(0, some (28, .ds [iD ↑ch, iD n, iD d, iD a, iD p, iD f, D.sl (dI .i32 l) q])), (1, some (30, .ds [iD 0, D.lit (.slice none 0 0)])), (2, some (28, .ds [iD 0, iD 0, iD 0, iD 0, iD 0, iD 0, D.lit (.slice none 0 0)]))]) (nx' := 3) (by kernel_rfl) (by omega) ?_
    refine AW.cond_t (.tmp (Look.of rfl)) ?_
    refine AW.skip ?_
    refine AW.block ?_
    refine AW.seq ?_
    have hx2 : (((0 : Int) ≤ ((mvV f (stp n a) i) / (d * 65536))) ∧ ((((mvV f (stp n a) i) / (d * 65536)) ≤ 3600000000000000) ∧ (((0 : Int) ≤ ((mvV f (stp n a) i) % (d * 65536))) ∧ (((mvV f (stp n a) i) % (d * 65536)) < (d * 65536))))) := (by have h9 := PhV.b (show PhV n d a p f by assumption); have h8 := stp_in h9.1 h9.2.2.1; have h7 := @mv_in f (stp n a) i (show 0 ≤ f ∧ f < 50331648000 by omega) (show 0 ≤ stp n a ∧ stp n a ≤ 53477376000 by omega) (by omega); have h6 := quo_in h7.1 (show 0 < d * 65536 by omega); omega)
    refine AW.rgs [.no, .no, .no, .call [] (.tup [iE (p + ((mvV f (stp n a) i) / (d * 65536))), iE ((mvV f (stp n a) i) % (d * 65536)), iE 0]) [] 0 [] none, .no, .no, .no, .no, .no, .no, .no] [1, 2, 4, 5, 7, 8, 9] [0, 1, 2] (P := (_)) (l' := [(1, iV ↑k), (2, rV 0 0), (4, rV 1 0), (5, rV 2 0), (7, iV ↑i), (8, iV ↑W), (9, iV (p + ((mvV f (stp n a) i) / (d * 65536))))]) (g' := [(0, some (28, .ds [iD ↑ch, iD n, iD d, iD a, iD p, iD f, D.sl (dI .i32 l) q])), (1, some (30, .ds [iD 0, D.lit (.slice none 0 0)])), (2, some (28, .ds [iD 0, iD 0, iD 0, iD 0, iD 0, iD 0, D.lit (.slice none 0 0)]))]) (nx' := 3) (by kernel_rfl) (P_rAt n d a p f i (by first | omega | with_reducible assumption | (simp <;> omega) | rfl | assumption) (by omega)) ?_
    by_cases hx3 : (((W : Nat) : Int) ≤ ((p + ((mvV f (stp n a) i) / (d * 65536))) - p))
    · obtain rfl : i = (leftV W f (stp n a) (d * 65536) k) := (left_is (by omega) (by omega) (by omega) (by first | assumption | omega) (by omega)).symm
      have hlk : leftV W f (stp n a) (d * 65536) k ≤ k ∧ (leftV W f (stp n a) (d * 65536) k = 0 ∨ 1 ≤ W) := leftV_le hbd.2.2.2.2.1
      refine AW.rgs [.no, .no, .no, .no, .w, .no, .b true] [1, 2, 4, 5, 7, 8, 46] [0, 1, 2] (P := ((-9223372036854775808) ≤ ((p + ((mvV f (stp n a) (leftV W f (stp n a) (d * 65536) k)) / (d * 65536))) - p) ∧ ((p + ((mvV f (stp n a) (leftV W f (stp n a) (d * 65536) k)) / (d * 65536))) - p) ≤ 9223372036854775807) ∧ ((((W : Nat) : Int) ≤ ((p + ((mvV f (stp n a) (leftV W f (stp n a) (d * 65536) k)) / (d * 65536))) - p)))) (l' := [(1, iV ↑k), (2, rV 0 0), (4, rV 1 0), (5, rV 2 0), (7, iV (((leftV W f (stp n a) (d * 65536) k) : Nat) : Int)), (8, iV ↑W), (46, bV true)]) (g' := [(0, some (28, .ds [iD ↑ch, iD n, iD d, iD a, iD p, iD f, D.sl (dI .i32 l) q])), (1, some (30, .ds [iD 0, D.lit (.slice none 0 0)])), (2, some (28, .ds [iD 0, iD 0, iD 0, iD 0, iD 0, iD 0, D.lit (.slice none 0 0)]))]) (nx' := 3) (by kernel_rfl) ⟨⟨by omega, by omega⟩, (by omega)⟩ ?_
      refine AW.cond_t (.tmp (Look.of rfl)) ?_
      refine AW.exit ?_
      refine AW.rgs [.no, .no, .call [] (.tup [.agg [iC 0, iC 0, iC 0, iC 0, iC 0, iC 0, .d (D.lit (.slice none 0 0))], iE 2]) [] 0 [] none, .no, .no, .no, .no, .no, .no] [2, 4, 5, 7, 12, 13] [0, 1, 2, 3] (P := (_)) (l' := [(2, rV 0 0), (4, rV 1 0), (5, rV 2 0), (7, iV (((leftV W f (stp n a) (d * 65536) k) : Nat) : Int)), (12, rV 3 0), (13, iV 2)]) (g' := [(0, some (28, .ds [iD ↑ch, iD n, iD d, iD a, iD p, iD f, D.sl (dI .i32 l) q])), (1, some (30, .ds [iD 0, D.lit (.slice none 0 0)])), (2, some (28, .ds [iD 0, iD 0, iD 0, iD 0, iD 0, iD 0, D.lit (.slice none 0 0)])), (3, some (28, .ds [iD 0, iD 0, iD 0, iD 0, iD 0, iD 0, D.lit (.slice none 0 0)]))]) (nx' := 4) (by kernel_rfl) (Q_rpassedE ch W n d a p f l q (leftV W f (stp n a) (d * 65536) k) (by omega) (by first | omega | with_reducible assumption | (simp <;> omega) | rfl | assumption) (by first | omega | with_reducible assumption | (simp <;> omega) | rfl | assumption) (by first | omega | with_reducible assumption | (simp <;> omega) | rfl | assumption) (by first | omega | with_reducible assumption | (simp <;> omega) | rfl | assumption)) ?_
      refine AW.seq ?_
      refine AW.rgs [.no, .b true] [2, 4, 5, 7, 12, 13, 56] [0, 1, 2, 3] (P := (((2 : Int) ≠ 0))) (l' := [(2, rV 0 0), (4, rV 1 0), (5, rV 2 0), (7, iV (((leftV W f (stp n a) (d * 65536) k) : Nat) : Int)), (12, rV 3 0), (13, iV 2), (56, bV true)]) (g' := [(0, some (28, .ds [iD ↑ch, iD n, iD d, iD a, iD p, iD f, D.sl (dI .i32 l) q])), (1, some (30, .ds [iD 0, D.lit (.slice none 0 0)])), (2, some (28, .ds [iD 0, iD 0, iD 0, iD 0, iD 0, iD 0, D.lit (.slice none 0 0)])), (3, some (28, .ds [iD 0, iD 0, iD 0, iD 0, iD 0, iD 0, D.lit (.slice none 0 0)]))]) (nx' := 4) (by kernel_rfl) (by omega) ?_
      refine AW.cond_t (.tmp (Look.of rfl)) ?_
      refine AW.rgs [.no, .no, .no, .no, .no, .no] [4, 5, 6] [1, 2] (P := True) (l' := [(4, rV 1 0), (5, rV 2 0), (6, iV 2)]) (g' := [(1, some (30, .ds [iD 0, D.lit (.slice none 0 0)])), (2, some (28, .ds [iD 0, iD 0, iD 0, iD 0, iD 0, iD 0, D.lit (.slice none 0 0)]))]) (nx' := 4) (by kernel_rfl) trivial ?_
      refine AW.ret ?_
      exact EndP.of (.inr rfl) [] (P := ((0 : Int) = 0) ∧ ((.slice none 0 0 : Value) = .slice none 0 0) ∧ ((0 : Int) = 0) ∧ ((0 : Int) = 0) ∧ ((0 : Int) = 0) ∧ ((0 : Int) = 0) ∧ ((0 : Int) = 0) ∧ ((0 : Int) = 0) ∧ ((.slice none 0 0 : Value) = .slice none 0 0) ∧ ((2 : Int) = 2)) (by kernel_rfl) ⟨rfl, rfl, rfl, rfl, rfl, rfl, rfl, rfl, rfl, rfl⟩
    · refine AW.rgs [.no, .no, .no, .no, .w, .no, .b false] [1, 2, 4, 5, 7, 8, 46] [0, 1, 2] (P := ((-9223372036854775808) ≤ ((p + ((mvV f (stp n a) i) / (d * 65536))) - p) ∧ ((p + ((mvV f (stp n a) i) / (d * 65536))) - p) ≤ 9223372036854775807) ∧ (¬ (((W : Nat) : Int) ≤ ((p + ((mvV f (stp n a) i) / (d * 65536))) - p)))) (l' := [(1, iV ↑k), (2, rV 0 0), (4, rV 1 0), (5, rV 2 0), (7, iV ↑i), (8, iV ↑W), (46, bV false)]) (g' := [(0, some (28, .ds [iD ↑ch, iD n, iD d, iD a, iD p, iD f, D.sl (dI .i32 l) q])), (1, some (30, .ds [iD 0, D.lit (.slice none 0 0)])), (2, some (28, .ds [iD 0, iD 0, iD 0, iD 0, iD 0, iD 0, D.lit (.slice none 0 0)]))]) (nx' := 3) (by kernel_rfl) ⟨⟨by omega, by omega⟩, (by omega)⟩ ?_
      refine AW.cond_f (.tmp (Look.of rfl)) ?_
      refine AW.skip ?_
      refine AW.rg [.no, .w, .no] [1, 2, 4, 5, 7, 8] [0, 1, 2] (P := ((-9223372036854775808) ≤ (((i : Nat) : Int) + 1) ∧ (((i : Nat) : Int) + 1) ≤ 9223372036854775807)) (l' := [(1, iV ↑k), (2, rV 0 0), (4, rV 1 0), (5, rV 2 0), (7, iV (↑i + 1)), (8, iV ↑W)]) (g' := [(0, some (28, .ds [iD ↑ch, iD n, iD d, iD a, iD p, iD f, D.sl (dI .i32 l) q])), (1, some (30, .ds [iD 0, D.lit (.slice none 0 0)])), (2, some (28, .ds [iD 0, iD 0, iD 0, iD 0, iD 0, iD 0, D.lit (.slice none 0 0)]))]) (nx' := 3) (by kernel_rfl) ⟨by omega, by omega⟩ ?_
      exact Rd.of ⟨((i + 1) : Nat), (show ((i + 1) ≤ k) ∧ ((i + 1) = 0 ∨ mvV f (stp n a) ((i + 1) - 1) / (d * 65536) < ((W : Nat) : Int)) from ⟨(by first | omega | assumption | simp), (.inr (by rw [Nat.add_sub_cancel]; omega))⟩)⟩ [] (P := ((((k : Nat) : Int) : Int) = ((k : Nat) : Int)) ∧ ((0 : Nat) = 0) ∧ ((0 : Nat) = 0) ∧ ((0 : Nat) = 0) ∧ (((((i + 1) : Nat) : Int) : Int) = (((i : Nat) : Int) + 1)) ∧ ((((W : Nat) : Int) : Int) = ((W : Nat) : Int)) ∧ (([iD ((ch : Nat) : Int), iD n, iD d, iD a, iD p, iD f, D.sl (dI .i32 l) q] : List D) = [iD ((ch : Nat) : Int), iD n, iD d, iD a, iD p, iD f, D.sl (dI .i32 l) q]) ∧ (([iD 0, D.lit (.slice none 0 0)] : List D) = [iD 0, D.lit (.slice none 0 0)]) ∧ (([iD 0, iD 0, iD 0, iD 0, iD 0, iD 0, D.lit (.slice none 0 0)] : List D) = [iD 0, iD 0, iD 0, iD 0, iD 0, iD 0, D.lit (.slice none 0 0)])) (by kernel_rfl) ⟨rfl, rfl, rfl, rfl, (by first | rfl | omega | assumption | (simp; done) | (simp; omega)), rfl, rfl, rfl, rfl⟩ (show k - (i + 1) < k - i from (by first | omega | (show _ < _; simp; omega)))
  · obtain rfl : i = (leftV W f (stp n a) (d * 65536) k) := (left_is (by omega) (by omega) (by omega) (by first | assumption | omega) (by omega)).symm
    have hlk : leftV W f (stp n a) (d * 65536) k ≤ k ∧ (leftV W f (stp n a) (d * 65536) k = 0 ∨ 1 ≤ W) := leftV_le hbd.2.2.2.2.1
    refine AW.rgs [.no, .no, .b false] [1, 2, 4, 5, 7, 8, 31] [0, 1, 2] (P := (¬ ((((leftV W f (stp n a) (d * 65536) k) : Nat) : Int) < ((k : Nat) : Int)))) (l' := [(1, iV ↑k), (2, rV 0 0), (4, rV 1 0), (5, rV 2 0), (7, iV (((leftV W f (stp n a) (d * 65536) k) : Nat) : Int)), (8, iV ↑W), (31, bV false)]) (g' := [(0, some (28, .ds [iD ↑ch, iD n, iD d, iD a, iD p, iD f, D.sl (dI .i32 l) q])), (1, some (30, .ds [iD 0, D.lit (.slice none 0 0)])), (2, some (28, .ds [iD 0, iD 0, iD 0, iD 0, iD 0, iD 0, D.lit (.slice none 0 0)]))]) (nx' := 3) (by kernel_rfl) (by omega) ?_
    refine AW.cond_f (.tmp (Look.of rfl)) ?_
    refine AW.exit ?_
    refine AW.rgs [.no, .no, .call [] (.tup [.agg [iC 0, iC 0, iC 0, iC 0, iC 0, iC 0, .d (D.lit (.slice none 0 0))], iE 2]) [] 0 [] none, .no, .no, .no, .no, .no, .no] [2, 4, 5, 7, 12, 13] [0, 1, 2, 3] (P := (_)) (l' := [(2, rV 0 0), (4, rV 1 0), (5, rV 2 0), (7, iV (((leftV W f (stp n a) (d * 65536) k) : Nat) : Int)), (12, rV 3 0), (13, iV 2)]) (g' := [(0, some (28, .ds [iD ↑ch, iD n, iD d, iD a, iD p, iD f, D.sl (dI .i32 l) q])), (1, some (30, .ds [iD 0, D.lit (.slice none 0 0)])), (2, some (28, .ds [iD 0, iD 0, iD 0, iD 0, iD 0, iD 0, D.lit (.slice none 0 0)])), (3, some (28, .ds [iD 0, iD 0, iD 0, iD 0, iD 0, iD 0, D.lit (.slice none 0 0)]))]) (nx' := 4) (by kernel_rfl) (Q_rpassedE ch W n d a p f l q (leftV W f (stp n a) (d * 65536) k) (by omega) (by first | omega | with_reducible assumption | (simp <;> omega) | rfl | assumption) (by first | omega | with_reducible assumption | (simp <;> omega) | rfl | assumption) (by first | omega | with_reducible assumption | (simp <;> omega) | rfl | assumption) (by first | omega | with_reducible assumption | (simp <;> omega) | rfl | assumption)) ?_
    refine AW.seq ?_
    refine AW.rgs [.no, .b true] [2, 4, 5, 7, 12, 13, 56] [0, 1, 2, 3] (P := (((2 : Int) ≠ 0))) (l' := [(2, rV 0 0), (4, rV 1 0), (5, rV 2 0), (7, iV (((leftV W f (stp n a) (d * 65536) k) : Nat) : Int)), (12, rV 3 0), (13, iV 2), (56, bV true)]) (g' := [(0, some (28, .ds [iD ↑ch, iD n, iD d, iD a, iD p, iD f, D.sl (dI .i32 l) q])), (1, some (30, .ds [iD 0, D.lit (.slice none 0 0)])), (2, some (28, .ds [iD 0, iD 0, iD 0, iD 0, iD 0, iD 0, D.lit (.slice none 0 0)])), (3, some (28, .ds [iD 0, iD 0, iD 0, iD 0, iD 0, iD 0, D.lit (.slice none 0 0)]))]) (nx' := 4) (by kernel_rfl) (by omega) ?_
    refine AW.cond_t (.tmp (Look.of rfl)) ?_
    refine AW.rgs [.no, .no, .no, .no, .no, .no] [4, 5, 6] [1, 2] (P := True) (l' := [(4, rV 1 0), (5, rV 2 0), (6, iV 2)]) (g' := [(1, some (30, .ds [iD 0, D.lit (.slice none 0 0)])), (2, some (28, .ds [iD 0, iD 0, iD 0, iD 0, iD 0, iD 0, D.lit (.slice none 0 0)]))]) (nx' := 4) (by kernel_rfl) trivial ?_
    refine AW.ret ?_
    exact EndP.of (.inr rfl) [] (P := ((0 : Int) = 0) ∧ ((.slice none 0 0 : Value) = .slice none 0 0) ∧ ((0 : Int) = 0) ∧ ((0 : Int) = 0) ∧ ((0 : Int) = 0) ∧ ((0 : Int) = 0) ∧ ((0 : Int) = 0) ∧ ((0 : Int) = 0) ∧ ((.slice none 0 0 : Value) = .slice none 0 0) ∧ ((2 : Int) = 2)) (by kernel_rfl) ⟨rfl, rfl, rfl, rfl, rfl, rfl, rfl, rfl, rfl, rfl⟩

set_option maxHeartbeats 4000000 in
set_option maxRecDepth 100000 in
theorem Q_ConvertE1 (ch n d a p f : Int) (l : List Int) (q : Nat) (c2 : Int) (m : List Int) (z : Nat) (hq : List.length l = q) (hm : q ≤ 100000000000000) (hz : List.length m = z) (hmz : z ≤ 100000000000000) (hF : (phB n d a p f && okB ch l) = false) : Fun 30 [.agg [iC ch, iC n, iC d, iC a, iC p, iC f, .d (D.sl (dI .i32 l) q)], .agg [iC c2, .d (D.sl (dI .i32 m) z)]] (toG []) 0 (.tup [.agg [iC 0, .d (D.lit (.slice none 0 0))], .agg [iC 0, iC 0, iC 0, iC 0, iC 0, iC 0, .d (D.lit (.slice none 0 0))], iE 1]) (toG []) 0 := by
  refine Fun.mk (n := 36) Try.func30 rfl rfl (Nat.le_of_ble_eq_true rfl) ?_
  intro cx hcx
  refine AW.rgs [.no, .no, .no, .no, .no] [2, 3, 4, 5] [0, 1, 2, 3] (P := True) (l' := [(2, rV 0 0), (3, rV 1 0), (4, rV 2 0), (5, rV 3 0)]) (g' := [(0, some (28, .ds [iD ch, iD n, iD d, iD a, iD p, iD f, D.sl (dI .i32 l) q])), (1, some (30, .ds [iD c2, D.sl (dI .i32 m) z])), (2, some (30, .ds [iD 0, D.lit (.slice none 0 0)])), (3, some (28, .ds [iD 0, iD 0, iD 0, iD 0, iD 0, iD 0, D.lit (.slice none 0 0)]))]) (nx' := 4) (by kernel_rfl) trivial ?_
  refine AW.rgs [.no, .no, .call [] (.tup [.agg [iC 0, iC 0, iC 0, iC 0, iC 0, iC 0, .d (D.lit (.slice none 0 0))], iE 1]) [] 0 [] none, .no, .no, .no, .no, .no, .no] [4, 5, 7, 8] [2, 3, 4] (P := (_)) (l' := [(4, rV 2 0), (5, rV 3 0), (7, rV 4 0), (8, iV 1)]) (g' := [(2, some (30, .ds [iD 0, D.lit (.slice none 0 0)])), (3, some (28, .ds [iD 0, iD 0, iD 0, iD 0, iD 0, iD 0, D.lit (.slice none 0 0)])), (4, some (28, .ds [iD 0, iD 0, iD 0, iD 0, iD 0, iD 0, D.lit (.slice none 0 0)]))]) (nx' := 5) (by kernel_rfl) (Q_FeedE1 ch n d a p f l q c2 m z (by omega) (by omega) (by omega) (by omega) hF) ?_
  refine AW.seq ?_
  refine AW.rgs [.no, .b true] [4, 5, 7, 8, 18] [2, 3, 4] (P := (((1 : Int) ≠ 0))) (l' := [(4, rV 2 0), (5, rV 3 0), (7, rV 4 0), (8, iV 1), (18, bV true)]) (g' := [(2, some (30, .ds [iD 0, D.lit (.slice none 0 0)])), (3, some (28, .ds [iD 0, iD 0, iD 0, iD 0, iD 0, iD 0, D.lit (.slice none 0 0)])), (4, some (28, .ds [iD 0, iD 0, iD 0, iD 0, iD 0, iD 0, D.lit (.slice none 0 0)]))]) (nx' := 5) (by kernel_rfl) (by omega) ?_
  refine AW.cond_t (.tmp (Look.of rfl)) ?_
  refine AW.rgs [.no, .no, .no, .no, .no, .no] [4, 5, 6] [2, 3] (P := True) (l' := [(4, rV 2 0), (5, rV 3 0), (6, iV 1)]) (g' := [(2, some (30, .ds [iD 0, D.lit (.slice none 0 0)])), (3, some (28, .ds [iD 0, iD 0, iD 0, iD 0, iD 0, iD 0, D.lit (.slice none 0 0)]))]) (nx' := 5) (by kernel_rfl) trivial ?_
  refine AW.ret ?_
  exact EndP.of (.inr rfl) [] (P := ((0 : Int) = 0) ∧ ((.slice none 0 0 : Value) = .slice none 0 0) ∧ ((0 : Int) = 0) ∧ ((0 : Int) = 0) ∧ ((0 : Int) = 0) ∧ ((0 : Int) = 0) ∧ ((0 : Int) = 0) ∧ ((0 : Int) = 0) ∧ ((.slice none 0 0 : Value) = .slice none 0 0) ∧ ((1 : Int) = 1)) (by kernel_rfl) ⟨rfl, rfl, rfl, rfl, rfl, rfl, rfl, rfl, rfl, rfl⟩

set_option maxHeartbeats 4000000 in
set_option maxRecDepth 100000 in
theorem Q_ConvertE2 (ch n d a p f : Int) (l : List Int) (q : Nat) (c2 : Int) (m : List Int) (z : Nat) (hq : List.length l = q) (hm : q ≤ 100000000000000) (hz : List.length m = z) (hmz : z ≤ 100000000000000) (hT : (phB n d a p f && okB ch l) = true) (hG : okB c2 m = false) : Fun 30 [.agg [iC ch, iC n, iC d, iC a, iC p, iC f, .d (D.sl (dI .i32 l) q)], .agg [iC c2, .d (D.sl (dI .i32 m) z)]] (toG []) 0 (.tup [.agg [iC 0, .d (D.lit (.slice none 0 0))], .agg [iC 0, iC 0, iC 0, iC 0, iC 0, iC 0, .d (D.lit (.slice none 0 0))], iE 1]) (toG []) 0 := by
  refine Fun.mk (n := 36) Try.func30 rfl rfl (Nat.le_of_ble_eq_true rfl) ?_
  intro cx hcx
  refine AW.rgs [.no, .no, .no, .no, .no] [2, 3, 4, 5] [0, 1, 2, 3] (P := True) (l' := [(2, rV 0 0), (3, rV 1 0), (4, rV 2 0), (5, rV 3 0)]) (g' := [(0, some (28, .ds [iD ch, iD n, iD d, iD a, iD p, iD f, D.sl (dI .i32 l) q])), (1, some (30, .ds [iD c2, D.sl (dI .i32 m) z])), (2, some (30, .ds [iD 0, D.lit (.slice none 0 0)])), (3, some (28, .ds [iD 0, iD 0, iD 0, iD 0, iD 0, iD 0, D.lit (.slice none 0 0)]))]) (nx' := 4) (by kernel_rfl) trivial ?_
  refine AW.rgs [.no, .no, .call [] (.tup [.agg [iC 0, iC 0, iC 0, iC 0, iC 0, iC 0, .d (D.lit (.slice none 0 0))], iE 1]) [] 0 [] none, .no, .no, .no, .no, .no, .no] [4, 5, 7, 8] [2, 3, 4] (P := (_)) (l' := [(4, rV 2 0), (5, rV 3 0), (7, rV 4 0), (8, iV 1)]) (g' := [(2, some (30, .ds [iD 0, D.lit (.slice none 0 0)])), (3, some (28, .ds [iD 0, iD 0, iD 0, iD 0, iD 0, iD 0, D.lit (.slice none 0 0)])), (4, some (28, .ds [iD 0, iD 0, iD 0, iD 0, iD 0, iD 0, D.lit (.slice none 0 0)]))]) (nx' := 5) (by kernel_rfl) (Q_FeedE2 ch n d a p f l q c2 m z (by omega) (by omega) (by omega) (by omega) hT hG) ?_
  refine AW.seq ?_
  refine AW.rgs [.no, .b true] [4, 5, 7, 8, 18] [2, 3, 4] (P := (((1 : Int) ≠ 0))) (l' := [(4, rV 2 0), (5, rV 3 0), (7, rV 4 0), (8, iV 1), (18, bV true)]) (g' := [(2, some (30, .ds [iD 0, D.lit (.slice none 0 0)])), (3, some (28, .ds [iD 0, iD 0, iD 0, iD 0, iD 0, iD 0, D.lit (.slice none 0 0)])), (4, some (28, .ds [iD 0, iD 0, iD 0, iD 0, iD 0, iD 0, D.lit (.slice none 0 0)]))]) (nx' := 5) (by kernel_rfl) (by omega) ?_
  refine AW.cond_t (.tmp (Look.of rfl)) ?_
  refine AW.rgs [.no, .no, .no, .no, .no, .no] [4, 5, 6] [2, 3] (P := True) (l' := [(4, rV 2 0), (5, rV 3 0), (6, iV 1)]) (g' := [(2, some (30, .ds [iD 0, D.lit (.slice none 0 0)])), (3, some (28, .ds [iD 0, iD 0, iD 0, iD 0, iD 0, iD 0, D.lit (.slice none 0 0)]))]) (nx' := 5) (by kernel_rfl) trivial ?_
  refine AW.ret ?_
  exact EndP.of (.inr rfl) [] (P := ((0 : Int) = 0) ∧ ((.slice none 0 0 : Value) = .slice none 0 0) ∧ ((0 : Int) = 0) ∧ ((0 : Int) = 0) ∧ ((0 : Int) = 0) ∧ ((0 : Int) = 0) ∧ ((0 : Int) = 0) ∧ ((0 : Int) = 0) ∧ ((.slice none 0 0 : Value) = .slice none 0 0) ∧ ((1 : Int) = 1)) (by kernel_rfl) ⟨rfl, rfl, rfl, rfl, rfl, rfl, rfl, rfl, rfl, rfl⟩

set_option maxHeartbeats 4000000 in
set_option maxRecDepth 100000 in
theorem Q_ConvertE3 (ch n d a p f : Int) (l : List Int) (q : Nat) (c2 : Int) (m : List Int) (z : Nat) (hq : List.length l = q) (hm : q ≤ 100000000000000) (hz : List.length m = z) (hmz : z ≤ 100000000000000) (hT : (phB n d a p f && okB ch l) = true) (hG : okB c2 m = true) (hne : ¬ c2 = ch) : Fun 30 [.agg [iC ch, iC n, iC d, iC a, iC p, iC f, .d (D.sl (dI .i32 l) q)], .agg [iC c2, .d (D.sl (dI .i32 m) z)]] (toG []) 0 (.tup [.agg [iC 0, .d (D.lit (.slice none 0 0))], .agg [iC 0, iC 0, iC 0, iC 0, iC 0, iC 0, .d (D.lit (.slice none 0 0))], iE 11]) (toG []) 0 := by
  refine Fun.mk (n := 36) Try.func30 rfl rfl (Nat.le_of_ble_eq_true rfl) ?_
  intro cx hcx
  refine AW.rgs [.no, .no, .no, .no, .no] [2, 3, 4, 5] [0, 1, 2, 3] (P := True) (l' := [(2, rV 0 0), (3, rV 1 0), (4, rV 2 0), (5, rV 3 0)]) (g' := [(0, some (28, .ds [iD ch, iD n, iD d, iD a, iD p, iD f, D.sl (dI .i32 l) q])), (1, some (30, .ds [iD c2, D.sl (dI .i32 m) z])), (2, some (30, .ds [iD 0, D.lit (.slice none 0 0)])), (3, some (28, .ds [iD 0, iD 0, iD 0, iD 0, iD 0, iD 0, D.lit (.slice none 0 0)]))]) (nx' := 4) (by kernel_rfl) trivial ?_
  refine AW.rgs [.no, .no, .call [] (.tup [.agg [iC 0, iC 0, iC 0, iC 0, iC 0, iC 0, .d (D.lit (.slice none 0 0))], iE 11]) [] 0 [] none, .no, .no, .no, .no, .no, .no] [4, 5, 7, 8] [2, 3, 4] (P := (_)) (l' := [(4, rV 2 0), (5, rV 3 0), (7, rV 4 0), (8, iV 11)]) (g' := [(2, some (30, .ds [iD 0, D.lit (.slice none 0 0)])), (3, some (28, .ds [iD 0, iD 0, iD 0, iD 0, iD 0, iD 0, D.lit (.slice none 0 0)])), (4, some (28, .ds [iD 0, iD 0, iD 0, iD 0, iD 0, iD 0, D.lit (.slice none 0 0)]))]) (nx' := 5) (by kernel_rfl) (Q_FeedE3 ch n d a p f l q c2 m z (by omega) (by omega) (by omega) (by omega) hT hG (by first | omega | with_reducible assumption | (simp <;> omega) | rfl | assumption)) ?_
  refine AW.seq ?_
  refine AW.rgs [.no, .b true] [4, 5, 7, 8, 18] [2, 3, 4] (P := (((11 : Int) ≠ 0))) (l' := [(4, rV 2 0), (5, rV 3 0), (7, rV 4 0), (8, iV 11), (18, bV true)]) (g' := [(2, some (30, .ds [iD 0, D.lit (.slice none 0 0)])), (3, some (28, .ds [iD 0, iD 0, iD 0, iD 0, iD 0, iD 0, D.lit (.slice none 0 0)])), (4, some (28, .ds [iD 0, iD 0, iD 0, iD 0, iD 0, iD 0, D.lit (.slice none 0 0)]))]) (nx' := 5) (by kernel_rfl) (by omega) ?_
  refine AW.cond_t (.tmp (Look.of rfl)) ?_
  refine AW.rgs [.no, .no, .no, .no, .no, .no] [4, 5, 6] [2, 3] (P := True) (l' := [(4, rV 2 0), (5, rV 3 0), (6, iV 11)]) (g' := [(2, some (30, .ds [iD 0, D.lit (.slice none 0 0)])), (3, some (28, .ds [iD 0, iD 0, iD 0, iD 0, iD 0, iD 0, D.lit (.slice none 0 0)]))]) (nx' := 5) (by kernel_rfl) trivial ?_
  refine AW.ret ?_
  exact EndP.of (.inr rfl) [] (P := ((0 : Int) = 0) ∧ ((.slice none 0 0 : Value) = .slice none 0 0) ∧ ((0 : Int) = 0) ∧ ((0 : Int) = 0) ∧ ((0 : Int) = 0) ∧ ((0 : Int) = 0) ∧ ((0 : Int) = 0) ∧ ((0 : Int) = 0) ∧ ((.slice none 0 0 : Value) = .slice none 0 0) ∧ ((11 : Int) = 11)) (by kernel_rfl) ⟨rfl, rfl, rfl, rfl, rfl, rfl, rfl, rfl, rfl, rfl⟩

set_option maxHeartbeats 4000000 in
set_option maxRecDepth 100000 in
theorem Q_rConvertE1 (ch n d a p f : Int) (l : List Int) (q : Nat) (c2 : Int) (m : List Int) (z : Nat) (hq : List.length l = q) (hm : q ≤ 100000000000000) (hz : List.length m = z) (hmz : z ≤ 100000000000000) (hF : (phB n d a p f && okB ch l) = false) : Fun 31 [.agg [iC ch, iC n, iC d, iC a, iC p, iC f, .d (D.sl (dI .i32 l) q)], .agg [iC c2, .d (D.sl (dI .i32 m) z)]] (toG []) 0 (.tup [.agg [iC 0, .d (D.lit (.slice none 0 0))], .agg [iC 0, iC 0, iC 0, iC 0, iC 0, iC 0, .d (D.lit (.slice none 0 0))], iE 1]) (toG []) 0 := by
  refine Fun.mk (n := 36) Try.func31 rfl rfl (Nat.le_of_ble_eq_true rfl) ?_
  intro cx hcx
  refine AW.rgs [.no, .no, .no, .no, .no] [2, 3, 4, 5] [0, 1, 2, 3] (P := True) (l' := [(2, rV 0 0), (3, rV 1 0), (4, rV 2 0), (5, rV 3 0)]) (g' := [(0, some (28, .ds [iD ch, iD n, iD d, iD a, iD p, iD f, D.sl (dI .i32 l) q])), (1, some (30, .ds [iD c2, D.sl (dI .i32 m) z])), (2, some (30, .ds [iD 0, D.lit (.slice none 0 0)])), (3, some (28, .ds [iD 0, iD 0, iD 0, iD 0, iD 0, iD 0, D.lit (.slice none 0 0)]))]) (nx' := 4) (by kernel_rfl) trivial ?_
  refine AW.rgs [.no, .no, .call [] (.tup [.agg [iC 0, iC 0, iC 0, iC 0, iC 0, iC 0, .d (D.lit (.slice none 0 0))], iE 1]) [] 0 [] none, .no, .no, .no, .no, .no, .no] [4, 5, 7, 8] [2, 3, 4] (P := (_)) (l' := [(4, rV 2 0), (5, rV 3 0), (7, rV 4 0), (8, iV 1)]) (g' := [(2, some (30, .ds [iD 0, D.lit (.slice none 0 0)])), (3, some (28, .ds [iD 0, iD 0, iD 0, iD 0, iD 0, iD 0, D.lit (.slice none 0 0)])), (4, some (28, .ds [iD 0, iD 0, iD 0, iD 0, iD 0, iD 0, D.lit (.slice none 0 0)]))]) (nx' := 5) (by kernel_rfl) (Q_rFeedE1 ch n d a p f l q c2 m z (by omega) (by omega) (by omega) (by omega) hF) ?_
  refine AW.seq ?_
  refine AW.rgs [.no, .b true] [4, 5, 7, 8, 18] [2, 3, 4] (P := (((1 : Int) ≠ 0))) (l' := [(4, rV 2 0), (5, rV 3 0), (7, rV 4 0), (8, iV 1), (18, bV true)]) (g' := [(2, some (30, .ds [iD 0, D.lit (.slice none 0 0)])), (3, some (28, .ds [iD 0, iD 0, iD 0, iD 0, iD 0, iD 0, D.lit (.slice none 0 0)])), (4, some (28, .ds [iD 0, iD 0, iD 0, iD 0, iD 0, iD 0, D.lit (.slice none 0 0)]))]) (nx' := 5) (by kernel_rfl) (by omega) ?_
  refine AW.cond_t (.tmp (Look.of rfl)) ?_
  refine AW.rgs [.no, .no, .no, .no, .no, .no] [4, 5, 6] [2, 3] (P := True) (l' := [(4, rV 2 0), (5, rV 3 0), (6, iV 1)]) (g' := [(2, some (30, .ds [iD 0, D.lit (.slice none 0 0)])), (3, some (28, .ds [iD 0, iD 0, iD 0, iD 0, iD 0, iD 0, D.lit (.slice none 0 0)]))]) (nx' := 5) (by kernel_rfl) trivial ?_
  refine AW.ret ?_
  exact EndP.of (.inr rfl) [] (P := ((0 : Int) = 0) ∧ ((.slice none 0 0 : Value) = .slice none 0 0) ∧ ((0 : Int) = 0) ∧ ((0 : Int) = 0) ∧ ((0 : Int) = 0) ∧ ((0 : Int) = 0) ∧ ((0 : Int) = 0) ∧ ((0 : Int) = 0) ∧ ((.slice none 0 0 : Value) = .slice none 0 0) ∧ ((1 : Int) = 1)) (by kernel_rfl) ⟨rfl, rfl, rfl, rfl, rfl, rfl, rfl, rfl, rfl, rfl⟩

set_option maxHeartbeats 4000000 in
set_option maxRecDepth 100000 in
theorem Q_rConvertE2 (ch n d a p f : Int) (l : List Int) (q : Nat) (c2 : Int) (m : List Int) (z : Nat) (hq : List.length l = q) (hm : q ≤ 100000000000000) (hz : List.length m = z) (hmz : z ≤ 100000000000000) (hT : (phB n d a p f && okB ch l) = true) (hG : okB c2 m = false) : Fun 31 [.agg [iC ch, iC n, iC d, iC a, iC p, iC f, .d (D.sl (dI .i32 l) q)], .agg [iC c2, .d (D.sl (dI .i32 m) z)]] (toG []) 0 (.tup [.agg [iC 0, .d (D.lit (.slice none 0 0))], .agg [iC 0, iC 0, iC 0, iC 0, iC 0, iC 0, .d (D.lit (.slice none 0 0))], iE 1]) (toG []) 0 := by
  refine Fun.mk (n := 36) Try.func31 rfl rfl (Nat.le_of_ble_eq_true rfl) ?_
  intro cx hcx
  refine AW.rgs [.no, .no, .no, .no, .no] [2, 3, 4, 5] [0, 1, 2, 3] (P := True) (l' := [(2, rV 0 0), (3, rV 1 0), (4, rV 2 0), (5, rV 3 0)]) (g' := [(0, some (28, .ds [iD ch, iD n, iD d, iD a, iD p, iD f, D.sl (dI .i32 l) q])), (1, some (30, .ds [iD c2, D.sl (dI .i32 m) z])), (2, some (30, .ds [iD 0, D.lit (.slice none 0 0)])), (3, some (28, .ds [iD 0, iD 0, iD 0, iD 0, iD 0, iD 0, D.lit (.slice none 0 0)]))]) (nx' := 4) (by kernel_rfl) trivial ?_
  refine AW.rgs [.no, .no, .call [] (.tup [.agg [iC 0, iC 0, iC 0, iC 0, iC 0, iC 0, .d (D.lit (.slice none 0 0))], iE 1]) [] 0 [] none, .no, .no, .no, .no, .no, .no] [4, 5, 7, 8] [2, 3, 4] (P := (_)) (l' := [(4, rV 2 0), (5, rV 3 0), (7, rV 4 0), (8, iV 1)]) (g' := [(2, some (30, .ds [iD 0, D.lit (.slice none 0 0)])), (3, some (28, .ds [iD 0, iD 0, iD 0, iD 0, iD 0, iD 0, D.lit (.slice none 0 0)])), (4, some (28, .ds [iD 0, iD 0, iD 0, iD 0, iD 0, iD 0, D.lit (.slice none 0 0)]))]) (nx' := 5) (by kernel_rfl) (Q_rFeedE2 ch n d a p f l q c2 m z (by omega) (by omega) (by omega) (by omega) hT hG) ?_
  refine AW.seq ?_
  refine AW.rgs [.no, .b true] [4, 5, 7, 8, 18] [2, 3, 4] (P := (((1 : Int) ≠ 0))) (l' := [(4, rV 2 0), (5, rV 3 0), (7, rV 4 0), (8, iV 1), (18, bV true)]) (g' := [(2, some (30, .ds [iD 0, D.lit (.slice none 0 0)])), (3, some (28, .ds [iD 0, iD 0, iD 0, iD 0, iD 0, iD 0, D.lit (.slice none 0 0)])), (4, some (28, .ds [iD 0, iD 0, iD 0, iD 0, iD 0, iD 0, D.lit (.slice none 0 0)]))]) (nx' := 5) (by kernel_rfl) (by omega) ?_
  refine AW.cond_t (.tmp (Look.of rfl)) ?_
  refine AW.rgs [.no, .no, .no, .no, .no, .no] [4, 5, 6] [2, 3] (P := True) (l' := [(4, rV 2 0), (5, rV 3 0), (6, iV 1)]) (g' := [(2, some (30, .ds [iD 0, D.lit (.slice none 0 0)])), (3, some (28, .ds [iD 0, iD 0, iD 0, iD 0, iD 0, iD 0, D.lit (.slice none 0 0)]))]) (nx' := 5) (by kernel_rfl) trivial ?_
  refine AW.ret ?_
  exact EndP.of (.inr rfl) [] (P := ((0 : Int) = 0) ∧ ((.slice none 0 0 : Value) = .slice none 0 0) ∧ ((0 : Int) = 0) ∧ ((0 : Int) = 0) ∧ ((0 : Int) = 0) ∧ ((0 : Int) = 0) ∧ ((0 : Int) = 0) ∧ ((0 : Int) = 0) ∧ ((.slice none 0 0 : Value) = .slice none 0 0) ∧ ((1 : Int) = 1)) (by kernel_rfl) ⟨rfl, rfl, rfl, rfl, rfl, rfl, rfl, rfl, rfl, rfl⟩

set_option maxHeartbeats 4000000 in
set_option maxRecDepth 100000 in
theorem Q_rConvertE3 (ch n d a p f : Int) (l : List Int) (q : Nat) (c2 : Int) (m : List Int) (z : Nat) (hq : List.length l = q) (hm : q ≤ 100000000000000) (hz : List.length m = z) (hmz : z ≤ 100000000000000) (hT : (phB n d a p f && okB ch l) = true) (hG : okB c2 m = true) (hne : ¬ c2 = ch) : Fun 31 [.agg [iC ch, iC n, iC d, iC a, iC p, iC f, .d (D.sl (dI .i32 l) q)], .agg [iC c2, .d (D.sl (dI .i32 m) z)]] (toG []) 0 (.tup [.agg [iC 0, .d (D.lit (.slice none 0 0))], .agg [iC 0, iC 0, iC 0, iC 0, iC 0, iC 0, .d (D.lit (.slice none 0 0))], iE 11]) (toG []) 0 := by
  refine Fun.mk (n := 36) Try.func31 rfl rfl (Nat.le_of_ble_eq_true rfl) ?_
  intro cx hcx
  refine AW.rgs [.no, .no, .no, .no, .no] [2, 3, 4, 5] [0, 1, 2, 3] (P := True) (l' := [(2, rV 0 0), (3, rV 1 0), (4, rV 2 0), (5, rV 3 0)]) (g' := [(0, some (28, .ds [iD ch, iD n, iD d, iD a, iD p, iD f, D.sl (dI .i32 l) q])), (1, some (30, .ds [iD c2, D.sl (dI .i32 m) z])), (2, some (30, .ds [iD 0, D.lit (.slice none 0 0)])), (3, some (28, .ds [iD 0, iD 0, iD 0, iD 0, iD 0, iD 0, D.lit (.slice none 0 0)]))]) (nx' := 4) (by kernel_rfl) trivial ?_
  refine AW.rgs [.no, .no, .call [] (.tup [.agg [iC 0, iC 0, iC 0, iC 0, iC 0, iC 0, .d (D.lit (.slice none 0 0))], iE 11]) [] 0 [] none, .no, .no, .no, .no, .no, .no] [4, 5, 7, 8] [2, 3, 4] (P := (_)) (l' := [(4, rV 2 0), (5, rV 3 0), (7, rV 4 0), (8, iV 11)]) (g' := [(2, some (30, .ds [iD 0, D.lit (.slice none 0 0)])), (3, some (28, .ds [iD 0, iD 0, iD 0, iD 0, iD 0, iD 0, D.lit (.slice none 0 0)])), (4, some (28, .ds [iD 0, iD 0, iD 0, iD 0, iD 0, iD 0, D.lit (.slice none 0 0)]))]) (nx' := 5) (by kernel_rfl) (Q_rFeedE3 ch n d a p f l q c2 m z (by omega) (by omega) (by omega) (by omega) hT hG (by first | omega | with_reducible assumption | (simp <;> omega) | rfl | assumption)) ?_
  refine AW.seq ?_
  refine AW.rgs [.no, .b true] [4, 5, 7, 8, 18] [2, 3, 4] (P := (((11 : Int) ≠ 0))) (l' := [(4, rV 2 0), (5, rV 3 0), (7, rV 4 0), (8, iV 11), (18, bV true)]) (g' := [(2, some (30, .ds [iD 0, D.lit (.slice none 0 0)])), (3, some (28, .ds [iD 0, iD 0, iD 0, iD 0, iD 0, iD 0, D.lit (.slice none 0 0)])), (4, some (28, .ds [iD 0, iD 0, iD 0, iD 0, iD 0, iD 0, D.lit (.slice none 0 0)]))]) (nx' := 5) (by kernel_rfl) (by omega) ?_
  refine AW.cond_t (.tmp (Look.of rfl)) ?_
  refine AW.rgs [.no, .no, .no, .no, .no, .no] [4, 5, 6] [2, 3] (P := True) (l' := [(4, rV 2 0), (5, rV 3 0), (6, iV 11)]) (g' := [(2, some (30, .ds [iD 0, D.lit (.slice none 0 0)])), (3, some (28, .ds [iD 0, iD 0, iD 0, iD 0, iD 0, iD 0, D.lit (.slice none 0 0)]))]) (nx' := 5) (by kernel_rfl) trivial ?_
  refine AW.ret ?_
  exact EndP.of (.inr rfl) [] (P := ((0 : Int) = 0) ∧ ((.slice none 0 0 : Value) = .slice none 0 0) ∧ ((0 : Int) = 0) ∧ ((0 : Int) = 0) ∧ ((0 : Int) = 0) ∧ ((0 : Int) = 0) ∧ ((0 : Int) = 0) ∧ ((0 : Int) = 0) ∧ ((.slice none 0 0 : Value) = .slice none 0 0) ∧ ((11 : Int) = 11)) (by kernel_rfl) ⟨rfl, rfl, rfl, rfl, rfl, rfl, rfl, rfl, rfl, rfl⟩

set_option maxHeartbeats 4000000 in
set_option maxRecDepth 100000 in
theorem Q_ConvertE4 (ch W F : Nat) (n d a p f : Int) (l : List Int) (q : Nat) (m : List Int) (z : Nat) (hq : List.length l = q) (hv : BV ch W l) (hp : PhV n d a p f) (hz : List.length m = z) (hw : BV ch F m) (hWF : W + F ≤ 65536) (hb : 1125899906842624 < p + mvV f (stp n a) (mkF f (stp n a) (d * 65536) ((W + F : Nat) : Int)) / (d * 65536)) : Fun 30 [.agg [iC ((ch : Nat) : Int), iC n, iC d, iC a, iC p, iC f, .d (D.sl (dI .i32 l) q)], .agg [iC ((ch : Nat) : Int), .d (D.sl (dI .i32 m) z)]] (toG []) 0 (.tup [.agg [iC 0, .d (D.lit (.slice none 0 0))], .agg [iC 0, iC 0, iC 0, iC 0, iC 0, iC 0, .d (D.lit (.slice none 0 0))], iE 2]) (toG []) 0 := by
  have hok : phB n d a p f = true := hp.ok
  have hob : okB ((ch : Nat) : Int) l = true := hv.ok
  have hbd : (1 ≤ n ∧ n ≤ 768000) ∧ (1 ≤ d ∧ d ≤ 768000) ∧ (-4096 ≤ a ∧ a ≤ 4096) ∧ (0 ≤ p ∧ p ≤ 1125899906842624) ∧ 0 ≤ f ∧ f < d * 65536 := hp.b
  have hst : 61440 ≤ stp n a ∧ stp n a ≤ 53477376000 := stp_in hp.b.1 hp.b.2.2.1
  have hc1 : 1 ≤ ch := hv.c1
  have hc8 : ch ≤ 8 := hv.c8
  have hlq : q = W * ch := hq.symm.trans hv.len
  have hbig : W * ch ≤ 524288 := hv.big
  have hfit : W ≤ 65536 := hv.fit
  have hqW : (q : Int) / (ch : Int) = W := by rw [hlq]; exact hv.quo
  have hvWF : BV ch (W + F) (l ++ m) := app_BV hv hw hWF
  have hlm : List.length (l ++ m) = q + z := by rw [List.length_append, hq, hz]
  have hkn : needV f (stp n a) (d * 65536) (mkF f (stp n a) (d * 65536) ((W + F : Nat) : Int)) ≤ ((W + F : Nat) : Int) ∧ mkF f (stp n a) (d * 65536) ((W + F : Nat) : Int) ≤ 65536 := mkF_need (by omega)
  refine Fun.mk (n := 36) Try.func30 rfl rfl (Nat.le_of_ble_eq_true rfl) ?_
  intro cx hcx
  refine AW.rgs [.no, .no, .no, .no, .no] [2, 3, 4, 5] [0, 1, 2, 3] (P := True) (l' := [(2, rV 0 0), (3, rV 1 0), (4, rV 2 0), (5, rV 3 0)]) (g' := [(0, some (28, .ds [iD ↑ch, iD n, iD d, iD a, iD p, iD f, D.sl (dI .i32 l) q])), (1, some (30, .ds [iD ↑ch, D.sl (dI .i32 m) z])), (2, some (30, .ds [iD 0, D.lit (.slice none 0 0)])), (3, some (28, .ds [iD 0, iD 0, iD 0, iD 0, iD 0, iD 0, D.lit (.slice none 0 0)]))]) (nx' := 4) (by kernel_rfl) trivial ?_
  refine AW.rgs [.no, .no, .call [] (.tup [.agg [iC ((ch : Nat) : Int), iC n, iC d, iC a, iC p, iC f, .own 0 0 (q + z) 1 true], iE 0]) [(0, some (21, .ds (dI .i32 (l ++ m))))] 1 [] none, .no, .no, .no, .no, .no, .no] [4, 5, 7, 8] [2, 3, 4, 5] (P := (_)) (l' := [(4, rV 2 0), (5, rV 3 0), (7, rV 5 0), (8, iV 0)]) (g' := [(2, some (30, .ds [iD 0, D.lit (.slice none 0 0)])), (3, some (28, .ds [iD 0, iD 0, iD 0, iD 0, iD 0, iD 0, D.lit (.slice none 0 0)])), (4, some (21, .ds (dI .i32 (l ++ m)))), (5, some (28, .cs [iC ↑ch, iC n, iC d, iC a, iC p, iC f, .own 4 0 (q + z) 1 true]))]) (nx' := 6) (by kernel_rfl) (Q_Feed ch W F n d a p f l q m z (by omega) (by first | omega | with_reducible assumption | (simp <;> omega) | rfl | assumption) (by first | omega | with_reducible assumption | (simp <;> omega) | rfl | assumption) (by omega) (by first | omega | with_reducible assumption | (simp <;> omega) | rfl | assumption) (by omega)) ?_
  refine AW.seq ?_
  refine AW.rgs [.no, .b false] [4, 5, 7, 8, 18] [2, 3, 4, 5] (P := (¬ ((0 : Int) ≠ 0))) (l' := [(4, rV 2 0), (5, rV 3 0), (7, rV 5 0), (8, iV 0), (18, bV false)]) (g' := [(2, some (30, .ds [iD 0, D.lit (.slice none 0 0)])), (3, some (28, .ds [iD 0, iD 0, iD 0, iD 0, iD 0, iD 0, D.lit (.slice none 0 0)])), (4, some (21, .ds (dI .i32 (l ++ m)))), (5, some (28, .cs [iC ↑ch, iC n, iC d, iC a, iC p, iC f, .own 4 0 (q + z) 1 true]))]) (nx' := 6) (by kernel_rfl) (by omega) ?_
  refine AW.cond_f (.tmp (Look.of rfl)) ?_
  refine AW.skip ?_
  have hx1 : (((mkF f (stp n a) (d * 65536) (((W + F) : Nat) : Int)) ≤ 65536) ∧ ((needV f (stp n a) (d * 65536) (mkF f (stp n a) (d * 65536) (((W + F) : Nat) : Int))) ≤ (((W + F) : Nat) : Int))) := (by have h9 := @mkF_need f (stp n a) (d * 65536) (((W + F) : Nat) : Int) (by omega); exact ⟨h9.2, h9.1⟩)
  refine AW.rgs [.no, .no, .no, .call [] (iV (((W + F) : Nat) : Int)) [] 0 [none] none, .call [] (.tup [iE (((mkF f (stp n a) (d * 65536) (((W + F) : Nat) : Int)) : Nat) : Int), iE 0]) [] 0 [] none, .no, .no, .no, .no, .no] [4, 5, 7, 9] [2, 3, 4, 5] (P := ((dI .i32 (l ++ m)).length = (q + z) * 1) ∧ (noSlPV (iV (((W + F) : Nat) : Int)) = true) ∧ (_) ∧ (_)) (l' := [(4, rV 2 0), (5, rV 3 0), (7, rV 5 0), (9, iV (((mkF f (stp n a) (d * 65536) (((W + F) : Nat) : Int)) : Nat) : Int))]) (g' := [(2, some (30, .ds [iD 0, D.lit (.slice none 0 0)])), (3, some (28, .ds [iD 0, iD 0, iD 0, iD 0, iD 0, iD 0, D.lit (.slice none 0 0)])), (4, some (21, .ds (dI .i32 (l ++ m)))), (5, some (28, .cs [iC ↑ch, iC n, iC d, iC a, iC p, iC f, .own 4 0 (q + z) 1 true]))]) (nx' := 6) (by kernel_rfl) ⟨(by first | omega | (simp only [prV_len, rwV_len, dI_len, List.length_append, List.length_cons, List.length_nil, List.length_take, List.length_drop, List.length_replicate, List.length_set, List.length_map, List.length_reverse, Nat.mul_one] <;> omega) | rfl), rfl, (Q_waiting ch (W + F) n d a p f (l ++ m) (q + z) (by first | omega | with_reducible assumption | (simp <;> omega) | rfl | assumption) (by first | omega | with_reducible assumption | (simp <;> omega) | rfl | assumption)), (P_Make n d a p f (((W + F) : Nat) : Int) (by first | omega | with_reducible assumption | (simp <;> omega) | rfl | assumption) (by omega))⟩ ?_
  refine AW.rgs [.no, .no, .call [] (.tup [.agg [iC 0, .d (D.lit (.slice none 0 0))], .agg [iC 0, iC 0, iC 0, iC 0, iC 0, iC 0, .d (D.lit (.slice none 0 0))], iE 2]) [] 0 [none] none, .no, .no, .no, .no, .no, .no] [4, 5, 6] [2, 3] (P := ((dI .i32 (l ++ m)).length = (q + z) * 1) ∧ (noSlPV (.tup [.agg [iC 0, .d (D.lit (.slice none 0 0))], .agg [iC 0, iC 0, iC 0, iC 0, iC 0, iC 0, .d (D.lit (.slice none 0 0))], iE 2]) = true) ∧ (_)) (l' := [(4, rV 2 0), (5, rV 3 0), (6, iV 2)]) (g' := [(2, some (30, .ds [iD 0, D.lit (.slice none 0 0)])), (3, some (28, .ds [iD 0, iD 0, iD 0, iD 0, iD 0, iD 0, D.lit (.slice none 0 0)]))]) (nx' := 6) (by kernel_rfl) ⟨(by first | omega | (simp only [prV_len, rwV_len, dI_len, List.length_append, List.length_cons, List.length_nil, List.length_take, List.length_drop, List.length_replicate, List.length_set, List.length_map, List.length_reverse, Nat.mul_one] <;> omega) | rfl), rfl, (Q_TakeE4 ch (W + F) n d a p f (l ++ m) (q + z) (mkF f (stp n a) (d * 65536) (((W + F) : Nat) : Int)) (by first | omega | with_reducible assumption | (simp <;> omega) | rfl | assumption) (by first | omega | with_reducible assumption | (simp <;> omega) | rfl | assumption) (by first | omega | with_reducible assumption | (simp <;> omega) | rfl | assumption) (by first | omega | with_reducible assumption | (simp <;> omega) | rfl | assumption) (by first | omega | with_reducible assumption | (simp <;> omega) | rfl | assumption) (by first | omega | with_reducible assumption | (simp <;> omega) | rfl | assumption))⟩ ?_
  refine AW.ret ?_
  exact EndP.of (.inr rfl) [] (P := ((0 : Int) = 0) ∧ ((.slice none 0 0 : Value) = .slice none 0 0) ∧ ((0 : Int) = 0) ∧ ((0 : Int) = 0) ∧ ((0 : Int) = 0) ∧ ((0 : Int) = 0) ∧ ((0 : Int) = 0) ∧ ((0 : Int) = 0) ∧ ((.slice none 0 0 : Value) = .slice none 0 0) ∧ ((2 : Int) = 2)) (by kernel_rfl) ⟨rfl, rfl, rfl, rfl, rfl, rfl, rfl, rfl, rfl, rfl⟩

set_option maxHeartbeats 4000000 in
set_option maxRecDepth 100000 in
theorem Q_rConvertE4 (ch W F : Nat) (n d a p f : Int) (l : List Int) (q : Nat) (m : List Int) (z : Nat) (hq : List.length l = q) (hv : BV ch W l) (hp : PhV n d a p f) (hz : List.length m = z) (hw : BV ch F m) (hWF : W + F ≤ 65536) (hb : 1125899906842624 < p + mvV f (stp n a) (mkF f (stp n a) (d * 65536) ((W + F : Nat) : Int)) / (d * 65536)) : Fun 31 [.agg [iC ((ch : Nat) : Int), iC n, iC d, iC a, iC p, iC f, .d (D.sl (dI .i32 l) q)], .agg [iC ((ch : Nat) : Int), .d (D.sl (dI .i32 m) z)]] (toG []) 0 (.tup [.agg [iC 0, .d (D.lit (.slice none 0 0))], .agg [iC 0, iC 0, iC 0, iC 0, iC 0, iC 0, .d (D.lit (.slice none 0 0))], iE 2]) (toG []) 0 := by
  have hok : phB n d a p f = true := hp.ok
  have hob : okB ((ch : Nat) : Int) l = true := hv.ok
  have hbd : (1 ≤ n ∧ n ≤ 768000) ∧ (1 ≤ d ∧ d ≤ 768000) ∧ (-4096 ≤ a ∧ a ≤ 4096) ∧ (0 ≤ p ∧ p ≤ 1125899906842624) ∧ 0 ≤ f ∧ f < d * 65536 := hp.b
  have hst : 61440 ≤ stp n a ∧ stp n a ≤ 53477376000 := stp_in hp.b.1 hp.b.2.2.1
  have hc1 : 1 ≤ ch := hv.c1
  have hc8 : ch ≤ 8 := hv.c8
  have hlq : q = W * ch := hq.symm.trans hv.len
  have hbig : W * ch ≤ 524288 := hv.big
  have hfit : W ≤ 65536 := hv.fit
  have hqW : (q : Int) / (ch : Int) = W := by rw [hlq]; exact hv.quo
  have hvWF : BV ch (W + F) (l ++ m) := app_BV hv hw hWF
  have hlm : List.length (l ++ m) = q + z := by rw [List.length_append, hq, hz]
  have hkn : needV f (stp n a) (d * 65536) (mkF f (stp n a) (d * 65536) ((W + F : Nat) : Int)) ≤ ((W + F : Nat) : Int) ∧ mkF f (stp n a) (d * 65536) ((W + F : Nat) : Int) ≤ 65536 := mkF_need (by omega)
  refine Fun.mk (n := 36) Try.func31 rfl rfl (Nat.le_of_ble_eq_true rfl) ?_
  intro cx hcx
  refine AW.rgs [.no, .no, .no, .no, .no] [2, 3, 4, 5] [0, 1, 2, 3] (P := True) (l' := [(2, rV 0 0), (3, rV 1 0), (4, rV 2 0), (5, rV 3 0)]) (g' := [(0, some (28, .ds [iD ↑ch, iD n, iD d, iD a, iD p, iD f, D.sl (dI .i32 l) q])), (1, some (30, .ds [iD ↑ch, D.sl (dI .i32 m) z])), (2, some (30, .ds [iD 0, D.lit (.slice none 0 0)])), (3, some (28, .ds [iD 0, iD 0, iD 0, iD 0, iD 0, iD 0, D.lit (.slice none 0 0)]))]) (nx' := 4) (by kernel_rfl) trivial ?_
  refine AW.rgs [.no, .no, .call [] (.tup [.agg [iC ((ch : Nat) : Int), iC n, iC d, iC a, iC p, iC f, .own 0 0 (q + z) 1 true], iE 0]) [(0, some (21, .ds (dI .i32 (l ++ m))))] 1 [] none, .no, .no, .no, .no, .no, .no] [4, 5, 7, 8] [2, 3, 4, 5] (P := (_)) (l' := [(4, rV 2 0), (5, rV 3 0), (7, rV 5 0), (8, iV 0)]) (g' := [(2, some (30, .ds [iD 0, D.lit (.slice none 0 0)])), (3, some (28, .ds [iD 0, iD 0, iD 0, iD 0, iD 0, iD 0, D.lit (.slice none 0 0)])), (4, some (21, .ds (dI .i32 (l ++ m)))), (5, some (28, .cs [iC ↑ch, iC n, iC d, iC a, iC p, iC f, .own 4 0 (q + z) 1 true]))]) (nx' := 6) (by kernel_rfl) (Q_rFeed ch W F n d a p f l q m z (by omega) (by first | omega | with_reducible assumption | (simp <;> omega) | rfl | assumption) (by first | omega | with_reducible assumption | (simp <;> omega) | rfl | assumption) (by omega) (by first | omega | with_reducible assumption | (simp <;> omega) | rfl | assumption) (by omega)) ?_
  refine AW.seq ?_
  refine AW.rgs [.no, .b false] [4, 5, 7, 8, 18] [2, 3, 4, 5] (P := (¬ ((0 : Int) ≠ 0))) (l' := [(4, rV 2 0), (5, rV 3 0), (7, rV 5 0), (8, iV 0), (18, bV false)]) (g' := [(2, some (30, .ds [iD 0, D.lit (.slice none 0 0)])), (3, some (28, .ds [iD 0, iD 0, iD 0, iD 0, iD 0, iD 0, D.lit (.slice none 0 0)])), (4, some (21, .ds (dI .i32 (l ++ m)))), (5, some (28, .cs [iC ↑ch, iC n, iC d, iC a, iC p, iC f, .own 4 0 (q + z) 1 true]))]) (nx' := 6) (by kernel_rfl) (by omega) ?_
  refine AW.cond_f (.tmp (Look.of rfl)) ?_
  refine AW.skip ?_
  have hx1 : (((mkF f (stp n a) (d * 65536) (((W + F) : Nat) : Int)) ≤ 65536) ∧ ((needV f (stp n a) (d * 65536) (mkF f (stp n a) (d * 65536) (((W + F) : Nat) : Int))) ≤ (((W + F) : Nat) : Int))) := (by have h9 := @mkF_need f (stp n a) (d * 65536) (((W + F) : Nat) : Int) (by omega); exact ⟨h9.2, h9.1⟩)
  refine AW.rgs [.no, .no, .no, .call [] (iV (((W + F) : Nat) : Int)) [] 0 [none] none, .call [] (.tup [iE (((mkF f (stp n a) (d * 65536) (((W + F) : Nat) : Int)) : Nat) : Int), iE 0]) [] 0 [] none, .no, .no, .no, .no, .no] [4, 5, 7, 9] [2, 3, 4, 5] (P := ((dI .i32 (l ++ m)).length = (q + z) * 1) ∧ (noSlPV (iV (((W + F) : Nat) : Int)) = true) ∧ (_) ∧ (_)) (l' := [(4, rV 2 0), (5, rV 3 0), (7, rV 5 0), (9, iV (((mkF f (stp n a) (d * 65536) (((W + F) : Nat) : Int)) : Nat) : Int))]) (g' := [(2, some (30, .ds [iD 0, D.lit (.slice none 0 0)])), (3, some (28, .ds [iD 0, iD 0, iD 0, iD 0, iD 0, iD 0, D.lit (.slice none 0 0)])), (4, some (21, .ds (dI .i32 (l ++ m)))), (5, some (28, .cs [iC ↑ch, iC n, iC d, iC a, iC p, iC f, .own 4 0 (q + z) 1 true]))]) (nx' := 6) (by kernel_rfl) ⟨(by first | omega | (simp only [prV_len, rwV_len, dI_len, List.length_append, List.length_cons, List.length_nil, List.length_take, List.length_drop, List.length_replicate, List.length_set, List.length_map, List.length_reverse, Nat.mul_one] <;> omega) | rfl), rfl, (Q_rWaiting ch (W + F) n d a p f (l ++ m) (q + z) (by first | omega | with_reducible assumption | (simp <;> omega) | rfl | assumption) (by first | omega | with_reducible assumption | (simp <;> omega) | rfl | assumption) (by first | omega | with_reducible assumption | (simp <;> omega) | rfl | assumption)), (P_rMake n d a p f (((W + F) : Nat) : Int) (by first | omega | with_reducible assumption | (simp <;> omega) | rfl | assumption) (by omega))⟩ ?_
  refine AW.rgs [.no, .no, .call [] (.tup [.agg [iC 0, .d (D.lit (.slice none 0 0))], .agg [iC 0, iC 0, iC 0, iC 0, iC 0, iC 0, .d (D.lit (.slice none 0 0))], iE 2]) [] 0 [none] none, .no, .no, .no, .no, .no, .no] [4, 5, 6] [2, 3] (P := ((dI .i32 (l ++ m)).length = (q + z) * 1) ∧ (noSlPV (.tup [.agg [iC 0, .d (D.lit (.slice none 0 0))], .agg [iC 0, iC 0, iC 0, iC 0, iC 0, iC 0, .d (D.lit (.slice none 0 0))], iE 2]) = true) ∧ (_)) (l' := [(4, rV 2 0), (5, rV 3 0), (6, iV 2)]) (g' := [(2, some (30, .ds [iD 0, D.lit (.slice none 0 0)])), (3, some (28, .ds [iD 0, iD 0, iD 0, iD 0, iD 0, iD 0, D.lit (.slice none 0 0)]))]) (nx' := 6) (by kernel_rfl) ⟨(by first | omega | (simp only [prV_len, rwV_len, dI_len, List.length_append, List.length_cons, List.length_nil, List.length_take, List.length_drop, List.length_replicate, List.length_set, List.length_map, List.length_reverse, Nat.mul_one] <;> omega) | rfl), rfl, (Q_rTakeE4 ch (W + F) n d a p f (l ++ m) (q + z) (mkF f (stp n a) (d * 65536) (((W + F) : Nat) : Int)) (by first | omega | with_reducible assumption | (simp <;> omega) | rfl | assumption) (by first | omega | with_reducible assumption | (simp <;> omega) | rfl | assumption) (by first | omega | with_reducible assumption | (simp <;> omega) | rfl | assumption) (by first | omega | with_reducible assumption | (simp <;> omega) | rfl | assumption) (by first | omega | with_reducible assumption | (simp <;> omega) | rfl | assumption) (by first | omega | with_reducible assumption | (simp <;> omega) | rfl | assumption))⟩ ?_
  refine AW.ret ?_
  exact EndP.of (.inr rfl) [] (P := ((0 : Int) = 0) ∧ ((.slice none 0 0 : Value) = .slice none 0 0) ∧ ((0 : Int) = 0) ∧ ((0 : Int) = 0) ∧ ((0 : Int) = 0) ∧ ((0 : Int) = 0) ∧ ((0 : Int) = 0) ∧ ((0 : Int) = 0) ∧ ((.slice none 0 0 : Value) = .slice none 0 0) ∧ ((2 : Int) = 2)) (by kernel_rfl) ⟨rfl, rfl, rfl, rfl, rfl, rfl, rfl, rfl, rfl, rfl⟩

set_option maxHeartbeats 4000000 in
set_option maxRecDepth 100000 in
theorem G_Wave0 (s : Nat) (c0 : Int) (f : Nat) (hc : c0 ≤ 0) (hs : s ≤ 100) (hf : f ≤ 65536) : Fun 15 [iE ((s : Nat) : Int), iE c0, iE 0, iE ((f : Nat) : Int)] (toG []) 0 (.e (.agg [iC c0, .d (D.lit (.slice none 0 0))])) (toG []) 0 := by
  refine Fun.mk (n := 47) Try.func15 rfl rfl (Nat.le_of_ble_eq_true rfl) ?_
  intro cx hcx
  refine AW.rgs [.no] [0, 1, 2, 3, 8] [0] (P := True) (l' := [(0, iV ↑s), (1, iV c0), (2, iV 0), (3, iV ↑f), (8, rV 0 0)]) (g' := [(0, some (30, .ds [iD 0, D.lit (.slice none 0 0)]))]) (nx' := 1) (by kernel_rfl) trivial ?_
  refine AW.rgs [.no, .no, .no, .no] [0, 1, 2, 3, 8, 9] [0, 1] (P := True) (l' := [(0, iV ↑s), (1, iV c0), (2, iV 0), (3, iV ↑f), (8, rV 0 0), (9, rV 1 0)]) (g' := [(0, some (30, .ds [iD 0, D.lit (.slice none 0 0)])), (1, some (30, .ds [iD c0, D.lit (.slice none 0 0)]))]) (nx' := 2) (by kernel_rfl) trivial ?_
  refine AW.seq ?_
  refine AW.rgs [.no, .no] [0, 1, 2, 3, 8, 9, 10] [0, 1] (P := True) (l' := [(0, iV ↑s), (1, iV c0), (2, iV 0), (3, iV ↑f), (8, rV 0 0), (9, rV 1 0), (10, iV 0)]) (g' := [(0, some (30, .ds [iD 0, D.lit (.slice none 0 0)])), (1, some (30, .ds [iD c0, D.lit (.slice none 0 0)]))]) (nx' := 2) (by kernel_rfl) trivial ?_
  refine AW.block ?_
  refine AW.loopE 0 hcx (fun (x : {x : Nat // match x with | k => (k ≤ f)}) => match x with | ⟨k, _⟩ => (⟨[(0, iV ((s : Nat) : Int)), (1, iV c0), (2, iV 0), (3, iV ((f : Nat) : Int)), (8, rV 0 0), (9, rV 1 0), (10, iV ((k : Nat) : Int))], [(0, some (30, .ds [iD 0, D.lit (.slice none 0 0)])), (1, some (30, .ds [iD c0, D.lit (.slice none 0 0)]))], 2⟩ : ES)) (fun (x : {x : Nat // match x with | k => (k ≤ f)}) => match x with | ⟨k, _⟩ => f - k) ⟨(0 : Nat), (show ((0 : Nat) ≤ f) from (by first | omega | assumption | simp))⟩ [] (P := ((((s : Nat) : Int) : Int) = ((s : Nat) : Int)) ∧ ((c0 : Int) = c0) ∧ ((0 : Int) = 0) ∧ ((((f : Nat) : Int) : Int) = ((f : Nat) : Int)) ∧ ((0 : Nat) = 0) ∧ ((0 : Nat) = 0) ∧ ((0 : Int) = 0) ∧ (([iD 0, D.lit (.slice none 0 0)] : List D) = [iD 0, D.lit (.slice none 0 0)]) ∧ (([iD c0, D.lit (.slice none 0 0)] : List D) = [iD c0, D.lit (.slice none 0 0)])) (by kernel_rfl) ⟨rfl, rfl, rfl, rfl, rfl, rfl, rfl, rfl, rfl⟩ ?_
  rintro ⟨k, hinv0⟩
  have hk : (k ≤ f) := hinv0
  refine AW.es (l := [(0, iV ((s : Nat) : Int)), (1, iV c0), (2, iV 0), (3, iV ((f : Nat) : Int)), (8, rV 0 0), (9, rV 1 0), (10, iV ((k : Nat) : Int))]) (g := [(0, some (30, .ds [iD 0, D.lit (.slice none 0 0)])), (1, some (30, .ds [iD c0, D.lit (.slice none 0 0)]))]) (nx := 2) rfl rfl rfl ?_
  refine AW.seq ?_
  by_cases hx1 : (((k : Nat) : Int) < (0 + ((f : Nat) : Int)))
  · refine AW.rgs [.no, .no, .no, .w, .b true] [0, 1, 2, 3, 8, 9, 10, 20] [0, 1] (P := ((-9223372036854775808) ≤ (0 + ((f : Nat) : Int)) ∧ (0 + ((f : Nat) : Int)) ≤ 9223372036854775807) ∧ ((((k : Nat) : Int) < (0 + ((f : Nat) : Int))))) (l' := [(0, iV ↑s), (1, iV c0), (2, iV 0), (3, iV ↑f), (8, rV 0 0), (9, rV 1 0), (10, iV ↑k), (20, bV true)]) (g' := [(0, some (30, .ds [iD 0, D.lit (.slice none 0 0)])), (1, some (30, .ds [iD c0, D.lit (.slice none 0 0)]))]) (nx' := 2) (by kernel_rfl) ⟨⟨by omega, by omega⟩, (by omega)⟩ ?_
    refine AW.cond_t (.tmp (Look.of rfl)) ?_
    refine AW.skip ?_
    refine AW.seq ?_
    refine AW.block ?_
    refine AW.rgs [.no] [0, 1, 2, 3, 8, 9, 10, 11] [0, 1] (P := True) (l' := [(0, iV ↑s), (1, iV c0), (2, iV 0), (3, iV ↑f), (8, rV 0 0), (9, rV 1 0), (10, iV ↑k), (11, iV 0)]) (g' := [(0, some (30, .ds [iD 0, D.lit (.slice none 0 0)])), (1, some (30, .ds [iD c0, D.lit (.slice none 0 0)]))]) (nx' := 2) (by kernel_rfl) trivial ?_
    refine AW.block ?_
    refine AW.rounds 1 ?_
    refine AWr.s ?_
    refine AW.seq ?_
    refine AW.rgs [.no, .no, .b false] [0, 1, 2, 3, 8, 9, 10, 11, 25] [0, 1] (P := (¬ ((0 : Int) < c0))) (l' := [(0, iV ↑s), (1, iV c0), (2, iV 0), (3, iV ↑f), (8, rV 0 0), (9, rV 1 0), (10, iV ↑k), (11, iV 0), (25, bV false)]) (g' := [(0, some (30, .ds [iD 0, D.lit (.slice none 0 0)])), (1, some (30, .ds [iD c0, D.lit (.slice none 0 0)]))]) (nx' := 2) (by kernel_rfl) (by omega) ?_
    refine AW.cond_f (.tmp (Look.of rfl)) ?_
    refine AW.exit ?_
    refine AW.rg [.no, .w, .no] [0, 1, 2, 3, 8, 9, 10] [0, 1] (P := ((-9223372036854775808) ≤ (((k : Nat) : Int) + 1) ∧ (((k : Nat) : Int) + 1) ≤ 9223372036854775807)) (l' := [(0, iV ↑s), (1, iV c0), (2, iV 0), (3, iV ↑f), (8, rV 0 0), (9, rV 1 0), (10, iV (↑k + 1))]) (g' := [(0, some (30, .ds [iD 0, D.lit (.slice none 0 0)])), (1, some (30, .ds [iD c0, D.lit (.slice none 0 0)]))]) (nx' := 2) (by kernel_rfl) ⟨by omega, by omega⟩ ?_
    exact Rd.of ⟨((k + 1) : Nat), (show ((k + 1) ≤ f) from (by first | omega | assumption | simp))⟩ [] (P := ((((s : Nat) : Int) : Int) = ((s : Nat) : Int)) ∧ ((c0 : Int) = c0) ∧ ((0 : Int) = 0) ∧ ((((f : Nat) : Int) : Int) = ((f : Nat) : Int)) ∧ ((0 : Nat) = 0) ∧ ((0 : Nat) = 0) ∧ (((((k + 1) : Nat) : Int) : Int) = (((k : Nat) : Int) + 1)) ∧ (([iD 0, D.lit (.slice none 0 0)] : List D) = [iD 0, D.lit (.slice none 0 0)]) ∧ (([iD c0, D.lit (.slice none 0 0)] : List D) = [iD c0, D.lit (.slice none 0 0)])) (by kernel_rfl) ⟨rfl, rfl, rfl, rfl, rfl, rfl, (by first | rfl | omega | assumption | (simp; done) | (simp; omega)), rfl, rfl⟩ (show f - (k + 1) < f - k from (by first | omega | (show _ < _; simp; omega)))
  · refine AW.rgs [.no, .no, .no, .w, .b false] [0, 1, 2, 3, 8, 9, 10, 20] [0, 1] (P := ((-9223372036854775808) ≤ (0 + ((f : Nat) : Int)) ∧ (0 + ((f : Nat) : Int)) ≤ 9223372036854775807) ∧ (¬ (((k : Nat) : Int) < (0 + ((f : Nat) : Int))))) (l' := [(0, iV ↑s), (1, iV c0), (2, iV 0), (3, iV ↑f), (8, rV 0 0), (9, rV 1 0), (10, iV ↑k), (20, bV false)]) (g' := [(0, some (30, .ds [iD 0, D.lit (.slice none 0 0)])), (1, some (30, .ds [iD c0, D.lit (.slice none 0 0)]))]) (nx' := 2) (by kernel_rfl) ⟨⟨by omega, by omega⟩, (by omega)⟩ ?_
    refine AW.cond_f (.tmp (Look.of rfl)) ?_
    refine AW.exit ?_
    refine AW.rgs [.no, .no] [8] [0] (P := True) (l' := [(8, rV 0 0)]) (g' := [(0, some (30, .ds [iD c0, D.lit (.slice none 0 0)]))]) (nx' := 2) (by kernel_rfl) trivial ?_
    refine AW.ret ?_
    exact EndP.of (.inr rfl) [] (P := ((c0 : Int) = c0) ∧ ((.slice none 0 0 : Value) = .slice none 0 0)) (by kernel_rfl) ⟨rfl, rfl⟩

end Go.Proofs.Ytpikmjikoifjeaa
