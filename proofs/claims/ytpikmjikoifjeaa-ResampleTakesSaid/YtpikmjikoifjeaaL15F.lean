/- Rate conversion refused. No statement is proved here. -/
import Derived.Test.YtpikmjikoifjeaaL15
namespace Go.Proofs.Ytpikmjikoifjeaa
open Go.ChangeShapes Go.WideShapes Go.ChangeAt Go.RowKit
set_option linter.unusedVariables false
set_option linter.unusedSimpArgs false

set_option maxHeartbeats 4000000 in
set_option maxRecDepth 100000 in
theorem Q_same15 (ch n d a p f : Int) (l : List Int) (q : Nat) (hl : List.length l = q) (hq : q ≤ 10000000) : Fun 18 [.agg [iC ch, iC n, iC d, iC a, iC p, iC f, .d (D.sl (dI .i32 l) q)], .agg [iC ch, iC n, iC d, iC a, iC p, iC f, .d (D.sl (dI .i32 l) q)]] (toG []) 0 (bV true) (toG []) 0 := by
  refine Fun.mk (n := 24) Try.func18 rfl rfl (Nat.le_of_ble_eq_true rfl) ?_
  intro cx hcx
  refine AW.rgs [.no, .no, .no] [2, 3] [0, 1] (P := True) (l' := [(2, rV 0 0), (3, rV 1 0)]) (g' := [(0, some (28, .ds [iD ch, iD n, iD d, iD a, iD p, iD f, D.sl (dI .i32 l) q])), (1, some (28, .ds [iD ch, iD n, iD d, iD a, iD p, iD f, D.sl (dI .i32 l) q]))]) (nx' := 2) (by kernel_rfl) trivial ?_
  refine AW.rgs [.no, .no, .no, .no, .b true, .no, .no, .no, .no, .no, .b true, .no, .no, .no, .no, .no, .no, .call [] (bV true) [] 0 [] none, .no, .no] [4] [] (P := ((ch = ch)) ∧ (((n = n) ∧ ((d = d) ∧ ((a = a) ∧ ((p = p) ∧ (f = f)))))) ∧ (_)) (l' := [(4, bV true)]) (g' := []) (nx' := 2) (by kernel_rfl) ⟨(by omega), ⟨(by omega), (by omega), (by omega), (by omega), (by omega)⟩, (Fun.y (G_SameData l l q q (by omega) (by omega) (by omega) (by omega)) (y' := bV true) (by simp [sameL_rfl]))⟩ ?_
  refine AW.ret ?_
  exact EndP.of (.inr rfl) [] (P := (true = true)) (by kernel_rfl) rfl

set_option maxHeartbeats 4000000 in
set_option maxRecDepth 100000 in
theorem Q_keepR (ch n d a p f : Int) (l : List Int) (q : Nat) (k : Int) (hl : List.length l = q) : Fun 11 [.agg [iC ch, iC n, iC d, iC a, iC p, iC f, .d (D.sl (dI .i32 l) q)], iE k] (toG []) 0 (.e (.c (.d (D.lit (.bool (decide (((q : Nat) : Int) ≤ k))))))) (toG []) 0 := by
  refine Fun.mk (n := 10) Try.func11 rfl rfl (Nat.le_of_ble_eq_true rfl) ?_
  intro cx hcx
  refine AW.rgs [.no, .no] [1, 2] [0] (P := True) (l' := [(1, iV k), (2, rV 0 0)]) (g' := [(0, some (28, .ds [iD ch, iD n, iD d, iD a, iD p, iD f, D.sl (dI .i32 l) q]))]) (nx' := 1) (by kernel_rfl) trivial ?_
  by_cases hx1 : (((q : Nat) : Int) ≤ k)
  · refine AW.rgs [.no, .no, .no, .no, .b true, .no] [4] [] (P := ((((q : Nat) : Int) ≤ k))) (l' := [(4, bV true)]) (g' := []) (nx' := 1) (by kernel_rfl) (by omega) ?_
    refine AW.ret ?_
    exact EndP.of (.inr rfl) [] (P := ((decide (((q : Nat) : Int) ≤ k)) = true)) (by kernel_rfl) (by first | rfl | assumption | exact decide_eq_true (by omega) | exact decide_eq_false (by omega) | (simp; omega))
  · refine AW.rgs [.no, .no, .no, .no, .b false, .no] [4] [] (P := (¬ (((q : Nat) : Int) ≤ k))) (l' := [(4, bV false)]) (g' := []) (nx' := 1) (by kernel_rfl) (by omega) ?_
    refine AW.ret ?_
    exact EndP.of (.inr rfl) [] (P := ((decide (((q : Nat) : Int) ≤ k)) = false)) (by kernel_rfl) (by first | rfl | assumption | exact decide_eq_true (by omega) | exact decide_eq_false (by omega) | (simp; omega))

set_option maxHeartbeats 4000000 in
set_option maxRecDepth 100000 in
theorem Q_keepB (ch : Int) (l : List Int) (q : Nat) (k : Int) (hl : List.length l = q) : Fun 12 [.agg [iC ch, .d (D.sl (dI .i32 l) q)], iE k] (toG []) 0 (.e (.c (.d (D.lit (.bool (decide (((q : Nat) : Int) ≤ k))))))) (toG []) 0 := by
  refine Fun.mk (n := 10) Try.func12 rfl rfl (Nat.le_of_ble_eq_true rfl) ?_
  intro cx hcx
  refine AW.rgs [.no, .no] [1, 2] [0] (P := True) (l' := [(1, iV k), (2, rV 0 0)]) (g' := [(0, some (30, .ds [iD ch, D.sl (dI .i32 l) q]))]) (nx' := 1) (by kernel_rfl) trivial ?_
  by_cases hx1 : (((q : Nat) : Int) ≤ k)
  · refine AW.rgs [.no, .no, .no, .no, .b true, .no] [4] [] (P := ((((q : Nat) : Int) ≤ k))) (l' := [(4, bV true)]) (g' := []) (nx' := 1) (by kernel_rfl) (by omega) ?_
    refine AW.ret ?_
    exact EndP.of (.inr rfl) [] (P := ((decide (((q : Nat) : Int) ≤ k)) = true)) (by kernel_rfl) (by first | rfl | assumption | exact decide_eq_true (by omega) | exact decide_eq_false (by omega) | (simp; omega))
  · refine AW.rgs [.no, .no, .no, .no, .b false, .no] [4] [] (P := (¬ (((q : Nat) : Int) ≤ k))) (l' := [(4, bV false)]) (g' := []) (nx' := 1) (by kernel_rfl) (by omega) ?_
    refine AW.ret ?_
    exact EndP.of (.inr rfl) [] (P := ((decide (((q : Nat) : Int) ≤ k)) = false)) (by kernel_rfl) (by first | rfl | assumption | exact decide_eq_true (by omega) | exact decide_eq_false (by omega) | (simp; omega))

set_option maxHeartbeats 4000000 in
set_option maxRecDepth 100000 in
theorem Q_WaitingF (ch n d a p f : Int) (l : List Int) (q : Nat) (hq : List.length l = q) (hm : q ≤ 100000000000000) (hF : (phB n d a p f && okB ch l) = false) : Fun 21 [.agg [iC ch, iC n, iC d, iC a, iC p, iC f, .d (D.sl (dI .i32 l) q)]] (toG []) 0 (iV 0) (toG []) 0 := by
  refine Fun.mk (n := 8) Try.func21 rfl rfl (Nat.le_of_ble_eq_true rfl) ?_
  intro cx hcx
  refine AW.rgs [.no, .no] [1] [0] (P := True) (l' := [(1, rV 0 0)]) (g' := [(0, some (28, .ds [iD ch, iD n, iD d, iD a, iD p, iD f, D.sl (dI .i32 l) q]))]) (nx' := 1) (by kernel_rfl) trivial ?_
  refine AW.seq ?_
  refine AW.rgs [.no, .call [] (bV false) [] 0 [] none, .no] [1, 5] [0] (P := (Fun 19 [.agg [iC ch, iC n, iC d, iC a, iC p, iC f, .d (D.sl (dI .i32 l) q)]] (toG []) 0 (bV false) (toG []) 0)) (l' := [(1, rV 0 0), (5, bV true)]) (g' := [(0, some (28, .ds [iD ch, iD n, iD d, iD a, iD p, iD f, D.sl (dI .i32 l) q]))]) (nx' := 1) (by kernel_rfl) (by have h0 := (Q_Valid ch n d a p f l q (by omega) (by omega)); rw [hF] at h0; exact h0) ?_
  refine AW.cond_t (.tmp (Look.of rfl)) ?_
  refine AW.rgs [.no] [2] [] (P := True) (l' := [(2, iV 0)]) (g' := []) (nx' := 1) (by kernel_rfl) trivial ?_
  refine AW.ret ?_
  exact EndP.of (.inr rfl) [] (P := ((0 : Int) = 0)) (by kernel_rfl) rfl

set_option maxHeartbeats 4000000 in
set_option maxRecDepth 100000 in
theorem Q_rWaitingF (ch n d a p f : Int) (l : List Int) (q : Nat) (hq : List.length l = q) (hm : q ≤ 100000000000000) (hF : (phB n d a p f && okB ch l) = false) : Fun 22 [.agg [iC ch, iC n, iC d, iC a, iC p, iC f, .d (D.sl (dI .i32 l) q)]] (toG []) 0 (iV 0) (toG []) 0 := by
  refine Fun.mk (n := 12) Try.func22 rfl rfl (Nat.le_of_ble_eq_true rfl) ?_
  intro cx hcx
  refine AW.rgs [.no, .no] [1] [0] (P := True) (l' := [(1, rV 0 0)]) (g' := [(0, some (28, .ds [iD ch, iD n, iD d, iD a, iD p, iD f, D.sl (dI .i32 l) q]))]) (nx' := 1) (by kernel_rfl) trivial ?_
  refine AW.seq ?_
  refine AW.rgs [.no, .call [] (bV false) [] 0 [] none, .no] [1, 5] [0] (P := (Fun 20 [.agg [iC ch, iC n, iC d, iC a, iC p, iC f, .d (D.sl (dI .i32 l) q)]] (toG []) 0 (bV false) (toG []) 0)) (l' := [(1, rV 0 0), (5, bV true)]) (g' := [(0, some (28, .ds [iD ch, iD n, iD d, iD a, iD p, iD f, D.sl (dI .i32 l) q]))]) (nx' := 1) (by kernel_rfl) (by have h0 := (Q_rValid ch n d a p f l q (by omega) (by omega)); rw [hF] at h0; exact h0) ?_
  refine AW.cond_t (.tmp (Look.of rfl)) ?_
  refine AW.rgs [.no] [2] [] (P := True) (l' := [(2, iV 0)]) (g' := []) (nx' := 1) (by kernel_rfl) trivial ?_
  refine AW.ret ?_
  exact EndP.of (.inr rfl) [] (P := ((0 : Int) = 0)) (by kernel_rfl) rfl

set_option maxHeartbeats 4000000 in
set_option maxRecDepth 100000 in
theorem Q_FeedE1 (ch n d a p f : Int) (l : List Int) (q : Nat) (c2 : Int) (m : List Int) (z : Nat) (hq : List.length l = q) (hm : q ≤ 100000000000000) (hz : List.length m = z) (hmz : z ≤ 100000000000000) (hF : (phB n d a p f && okB ch l) = false) : Fun 16 [.agg [iC ch, iC n, iC d, iC a, iC p, iC f, .d (D.sl (dI .i32 l) q)], .agg [iC c2, .d (D.sl (dI .i32 m) z)]] (toG []) 0 (.tup [.agg [iC 0, iC 0, iC 0, iC 0, iC 0, iC 0, .d (D.lit (.slice none 0 0))], iE 1]) (toG []) 0 := by
  refine Fun.mk (n := 41) Try.func16 rfl rfl (Nat.le_of_ble_eq_true rfl) ?_
  intro cx hcx
  refine AW.rgs [.no, .no, .no, .no] [2, 3, 4] [0, 1, 2] (P := True) (l' := [(2, rV 0 0), (3, rV 1 0), (4, rV 2 0)]) (g' := [(0, some (28, .ds [iD ch, iD n, iD d, iD a, iD p, iD f, D.sl (dI .i32 l) q])), (1, some (30, .ds [iD c2, D.sl (dI .i32 m) z])), (2, some (28, .ds [iD 0, iD 0, iD 0, iD 0, iD 0, iD 0, D.lit (.slice none 0 0)]))]) (nx' := 3) (by kernel_rfl) trivial ?_
  refine AW.seq ?_
  refine AW.rgs [.no, .call [] (bV false) [] 0 [] none, .no, .no, .no] [2, 3, 4, 13] [0, 1, 2] (P := (Fun 19 [.agg [iC ch, iC n, iC d, iC a, iC p, iC f, .d (D.sl (dI .i32 l) q)]] (toG []) 0 (bV false) (toG []) 0)) (l' := [(2, rV 0 0), (3, rV 1 0), (4, rV 2 0), (13, bV true)]) (g' := [(0, some (28, .ds [iD ch, iD n, iD d, iD a, iD p, iD f, D.sl (dI .i32 l) q])), (1, some (30, .ds [iD c2, D.sl (dI .i32 m) z])), (2, some (28, .ds [iD 0, iD 0, iD 0, iD 0, iD 0, iD 0, D.lit (.slice none 0 0)]))]) (nx' := 3) (by kernel_rfl) (by have h0 := (Q_Valid ch n d a p f l q (by omega) (by omega)); rw [hF] at h0; exact h0) ?_
  refine AW.cond_t (.tmp (Look.of rfl)) ?_
  refine AW.rgs [.no, .no, .no] [4, 5] [2] (P := True) (l' := [(4, rV 2 0), (5, iV 1)]) (g' := [(2, some (28, .ds [iD 0, iD 0, iD 0, iD 0, iD 0, iD 0, D.lit (.slice none 0 0)]))]) (nx' := 3) (by kernel_rfl) trivial ?_
  refine AW.ret ?_
  exact EndP.of (.inr rfl) [] (P := ((0 : Int) = 0) ∧ ((0 : Int) = 0) ∧ ((0 : Int) = 0) ∧ ((0 : Int) = 0) ∧ ((0 : Int) = 0) ∧ ((0 : Int) = 0) ∧ ((.slice none 0 0 : Value) = .slice none 0 0) ∧ ((1 : Int) = 1)) (by kernel_rfl) ⟨rfl, rfl, rfl, rfl, rfl, rfl, rfl, rfl⟩

set_option maxHeartbeats 4000000 in
set_option maxRecDepth 100000 in
theorem Q_FeedE2 (ch n d a p f : Int) (l : List Int) (q : Nat) (c2 : Int) (m : List Int) (z : Nat) (hq : List.length l = q) (hm : q ≤ 100000000000000) (hz : List.length m = z) (hmz : z ≤ 100000000000000) (hT : (phB n d a p f && okB ch l) = true) (hG : okB c2 m = false) : Fun 16 [.agg [iC ch, iC n, iC d, iC a, iC p, iC f, .d (D.sl (dI .i32 l) q)], .agg [iC c2, .d (D.sl (dI .i32 m) z)]] (toG []) 0 (.tup [.agg [iC 0, iC 0, iC 0, iC 0, iC 0, iC 0, .d (D.lit (.slice none 0 0))], iE 1]) (toG []) 0 := by
  refine Fun.mk (n := 41) Try.func16 rfl rfl (Nat.le_of_ble_eq_true rfl) ?_
  intro cx hcx
  refine AW.rgs [.no, .no, .no, .no] [2, 3, 4] [0, 1, 2] (P := True) (l' := [(2, rV 0 0), (3, rV 1 0), (4, rV 2 0)]) (g' := [(0, some (28, .ds [iD ch, iD n, iD d, iD a, iD p, iD f, D.sl (dI .i32 l) q])), (1, some (30, .ds [iD c2, D.sl (dI .i32 m) z])), (2, some (28, .ds [iD 0, iD 0, iD 0, iD 0, iD 0, iD 0, D.lit (.slice none 0 0)]))]) (nx' := 3) (by kernel_rfl) trivial ?_
  refine AW.seq ?_
  refine AW.rgs [.no, .call [] (bV true) [] 0 [] none, .no, .no, .no, .call [] (bV false) [] 0 [] none, .no, .no] [2, 3, 4, 13] [0, 1, 2] (P := (Fun 19 [.agg [iC ch, iC n, iC d, iC a, iC p, iC f, .d (D.sl (dI .i32 l) q)]] (toG []) 0 (bV true) (toG []) 0) ∧ (Fun 42 [.agg [iC c2, .d (D.sl (dI .i32 m) z)]] (toG []) 0 (bV false) (toG []) 0)) (l' := [(2, rV 0 0), (3, rV 1 0), (4, rV 2 0), (13, bV true)]) (g' := [(0, some (28, .ds [iD ch, iD n, iD d, iD a, iD p, iD f, D.sl (dI .i32 l) q])), (1, some (30, .ds [iD c2, D.sl (dI .i32 m) z])), (2, some (28, .ds [iD 0, iD 0, iD 0, iD 0, iD 0, iD 0, D.lit (.slice none 0 0)]))]) (nx' := 3) (by kernel_rfl) ⟨(by have h0 := (Q_Valid ch n d a p f l q (by omega) (by omega)); rw [hT] at h0; exact h0), (by have h0 := (G_Valid c2 m z (by omega) (by omega)); rw [hG] at h0; exact h0)⟩ ?_
  refine AW.cond_t (.tmp (Look.of rfl)) ?_
  refine AW.rgs [.no, .no, .no] [4, 5] [2] (P := True) (l' := [(4, rV 2 0), (5, iV 1)]) (g' := [(2, some (28, .ds [iD 0, iD 0, iD 0, iD 0, iD 0, iD 0, D.lit (.slice none 0 0)]))]) (nx' := 3) (by kernel_rfl) trivial ?_
  refine AW.ret ?_
  exact EndP.of (.inr rfl) [] (P := ((0 : Int) = 0) ∧ ((0 : Int) = 0) ∧ ((0 : Int) = 0) ∧ ((0 : Int) = 0) ∧ ((0 : Int) = 0) ∧ ((0 : Int) = 0) ∧ ((.slice none 0 0 : Value) = .slice none 0 0) ∧ ((1 : Int) = 1)) (by kernel_rfl) ⟨rfl, rfl, rfl, rfl, rfl, rfl, rfl, rfl⟩

set_option maxHeartbeats 4000000 in
set_option maxRecDepth 100000 in
theorem Q_FeedE3 (ch n d a p f : Int) (l : List Int) (q : Nat) (c2 : Int) (m : List Int) (z : Nat) (hq : List.length l = q) (hm : q ≤ 100000000000000) (hz : List.length m = z) (hmz : z ≤ 100000000000000) (hT : (phB n d a p f && okB ch l) = true) (hG : okB c2 m = true) (hne : ¬ c2 = ch) : Fun 16 [.agg [iC ch, iC n, iC d, iC a, iC p, iC f, .d (D.sl (dI .i32 l) q)], .agg [iC c2, .d (D.sl (dI .i32 m) z)]] (toG []) 0 (.tup [.agg [iC 0, iC 0, iC 0, iC 0, iC 0, iC 0, .d (D.lit (.slice none 0 0))], iE 11]) (toG []) 0 := by
  refine Fun.mk (n := 41) Try.func16 rfl rfl (Nat.le_of_ble_eq_true rfl) ?_
  intro cx hcx
  refine AW.rgs [.no, .no, .no, .no] [2, 3, 4] [0, 1, 2] (P := True) (l' := [(2, rV 0 0), (3, rV 1 0), (4, rV 2 0)]) (g' := [(0, some (28, .ds [iD ch, iD n, iD d, iD a, iD p, iD f, D.sl (dI .i32 l) q])), (1, some (30, .ds [iD c2, D.sl (dI .i32 m) z])), (2, some (28, .ds [iD 0, iD 0, iD 0, iD 0, iD 0, iD 0, D.lit (.slice none 0 0)]))]) (nx' := 3) (by kernel_rfl) trivial ?_
  refine AW.seq ?_
  refine AW.rgs [.no, .call [] (bV true) [] 0 [] none, .no, .no, .no, .call [] (bV true) [] 0 [] none, .no, .no] [2, 3, 4, 13] [0, 1, 2] (P := (Fun 19 [.agg [iC ch, iC n, iC d, iC a, iC p, iC f, .d (D.sl (dI .i32 l) q)]] (toG []) 0 (bV true) (toG []) 0) ∧ (Fun 42 [.agg [iC c2, .d (D.sl (dI .i32 m) z)]] (toG []) 0 (bV true) (toG []) 0)) (l' := [(2, rV 0 0), (3, rV 1 0), (4, rV 2 0), (13, bV false)]) (g' := [(0, some (28, .ds [iD ch, iD n, iD d, iD a, iD p, iD f, D.sl (dI .i32 l) q])), (1, some (30, .ds [iD c2, D.sl (dI .i32 m) z])), (2, some (28, .ds [iD 0, iD 0, iD 0, iD 0, iD 0, iD 0, D.lit (.slice none 0 0)]))]) (nx' := 3) (by kernel_rfl) ⟨(by have h0 := (Q_Valid ch n d a p f l q (by omega) (by omega)); rw [hT] at h0; exact h0), (by have h0 := (G_Valid c2 m z (by omega) (by omega)); rw [hG] at h0; exact h0)⟩ ?_
  refine AW.cond_f (.tmp (Look.of rfl)) ?_
  refine AW.skip ?_
  refine AW.seq ?_
  refine AW.rgs [.no, .no, .no, .no, .b true] [2, 3, 4, 19] [0, 1, 2] (P := ((c2 ≠ ch))) (l' := [(2, rV 0 0), (3, rV 1 0), (4, rV 2 0), (19, bV true)]) (g' := [(0, some (28, .ds [iD ch, iD n, iD d, iD a, iD p, iD f, D.sl (dI .i32 l) q])), (1, some (30, .ds [iD c2, D.sl (dI .i32 m) z])), (2, some (28, .ds [iD 0, iD 0, iD 0, iD 0, iD 0, iD 0, D.lit (.slice none 0 0)]))]) (nx' := 3) (by kernel_rfl) (by omega) ?_
  refine AW.cond_t (.tmp (Look.of rfl)) ?_
  refine AW.rgs [.no, .no, .no] [4, 5] [2] (P := True) (l' := [(4, rV 2 0), (5, iV 11)]) (g' := [(2, some (28, .ds [iD 0, iD 0, iD 0, iD 0, iD 0, iD 0, D.lit (.slice none 0 0)]))]) (nx' := 3) (by kernel_rfl) trivial ?_
  refine AW.ret ?_
  exact EndP.of (.inr rfl) [] (P := ((0 : Int) = 0) ∧ ((0 : Int) = 0) ∧ ((0 : Int) = 0) ∧ ((0 : Int) = 0) ∧ ((0 : Int) = 0) ∧ ((0 : Int) = 0) ∧ ((.slice none 0 0 : Value) = .slice none 0 0) ∧ ((11 : Int) = 11)) (by kernel_rfl) ⟨rfl, rfl, rfl, rfl, rfl, rfl, rfl, rfl⟩

set_option maxHeartbeats 4000000 in
set_option maxRecDepth 100000 in
theorem Q_rFeedE1 (ch n d a p f : Int) (l : List Int) (q : Nat) (c2 : Int) (m : List Int) (z : Nat) (hq : List.length l = q) (hm : q ≤ 100000000000000) (hz : List.length m = z) (hmz : z ≤ 100000000000000) (hF : (phB n d a p f && okB ch l) = false) : Fun 17 [.agg [iC ch, iC n, iC d, iC a, iC p, iC f, .d (D.sl (dI .i32 l) q)], .agg [iC c2, .d (D.sl (dI .i32 m) z)]] (toG []) 0 (.tup [.agg [iC 0, iC 0, iC 0, iC 0, iC 0, iC 0, .d (D.lit (.slice none 0 0))], iE 1]) (toG []) 0 := by
  refine Fun.mk (n := 44) Try.func17 rfl rfl (Nat.le_of_ble_eq_true rfl) ?_
  intro cx hcx
  refine AW.rgs [.no, .no, .no, .no] [2, 3, 4] [0, 1, 2] (P := True) (l' := [(2, rV 0 0), (3, rV 1 0), (4, rV 2 0)]) (g' := [(0, some (28, .ds [iD ch, iD n, iD d, iD a, iD p, iD f, D.sl (dI .i32 l) q])), (1, some (30, .ds [iD c2, D.sl (dI .i32 m) z])), (2, some (28, .ds [iD 0, iD 0, iD 0, iD 0, iD 0, iD 0, D.lit (.slice none 0 0)]))]) (nx' := 3) (by kernel_rfl) trivial ?_
  refine AW.seq ?_
  refine AW.block ?_
  refine AW.rgs [.no, .call [] (bV false) [] 0 [] none, .no, .no, .no, .no] [2, 3, 4, 6] [0, 1, 2] (P := (Fun 20 [.agg [iC ch, iC n, iC d, iC a, iC p, iC f, .d (D.sl (dI .i32 l) q)]] (toG []) 0 (bV false) (toG []) 0)) (l' := [(2, rV 0 0), (3, rV 1 0), (4, rV 2 0), (6, bV true)]) (g' := [(0, some (28, .ds [iD ch, iD n, iD d, iD a, iD p, iD f, D.sl (dI .i32 l) q])), (1, some (30, .ds [iD c2, D.sl (dI .i32 m) z])), (2, some (28, .ds [iD 0, iD 0, iD 0, iD 0, iD 0, iD 0, D.lit (.slice none 0 0)]))]) (nx' := 3) (by kernel_rfl) (by have h0 := (Q_rValid ch n d a p f l q (by omega) (by omega)); rw [hF] at h0; exact h0) ?_
  refine AW.cond_t (.tmp (Look.of rfl)) ?_
  refine AW.rgs [.no, .no, .no] [4, 5] [2] (P := True) (l' := [(4, rV 2 0), (5, iV 1)]) (g' := [(2, some (28, .ds [iD 0, iD 0, iD 0, iD 0, iD 0, iD 0, D.lit (.slice none 0 0)]))]) (nx' := 3) (by kernel_rfl) trivial ?_
  refine AW.ret ?_
  exact EndP.of (.inr rfl) [] (P := ((0 : Int) = 0) ∧ ((0 : Int) = 0) ∧ ((0 : Int) = 0) ∧ ((0 : Int) = 0) ∧ ((0 : Int) = 0) ∧ ((0 : Int) = 0) ∧ ((.slice none 0 0 : Value) = .slice none 0 0) ∧ ((1 : Int) = 1)) (by kernel_rfl) ⟨rfl, rfl, rfl, rfl, rfl, rfl, rfl, rfl⟩

set_option maxHeartbeats 4000000 in
set_option maxRecDepth 100000 in
theorem Q_rFeedE2 (ch n d a p f : Int) (l : List Int) (q : Nat) (c2 : Int) (m : List Int) (z : Nat) (hq : List.length l = q) (hm : q ≤ 100000000000000) (hz : List.length m = z) (hmz : z ≤ 100000000000000) (hT : (phB n d a p f && okB ch l) = true) (hG : okB c2 m = false) : Fun 17 [.agg [iC ch, iC n, iC d, iC a, iC p, iC f, .d (D.sl (dI .i32 l) q)], .agg [iC c2, .d (D.sl (dI .i32 m) z)]] (toG []) 0 (.tup [.agg [iC 0, iC 0, iC 0, iC 0, iC 0, iC 0, .d (D.lit (.slice none 0 0))], iE 1]) (toG []) 0 := by
  refine Fun.mk (n := 44) Try.func17 rfl rfl (Nat.le_of_ble_eq_true rfl) ?_
  intro cx hcx
  refine AW.rgs [.no, .no, .no, .no] [2, 3, 4] [0, 1, 2] (P := True) (l' := [(2, rV 0 0), (3, rV 1 0), (4, rV 2 0)]) (g' := [(0, some (28, .ds [iD ch, iD n, iD d, iD a, iD p, iD f, D.sl (dI .i32 l) q])), (1, some (30, .ds [iD c2, D.sl (dI .i32 m) z])), (2, some (28, .ds [iD 0, iD 0, iD 0, iD 0, iD 0, iD 0, D.lit (.slice none 0 0)]))]) (nx' := 3) (by kernel_rfl) trivial ?_
  refine AW.seq ?_
  refine AW.block ?_
  refine AW.rgs [.no, .call [] (bV true) [] 0 [] none, .no, .no, .no, .call [] (bV false) [] 0 [] none, .no, .no, .no] [2, 3, 4, 6] [0, 1, 2] (P := (Fun 20 [.agg [iC ch, iC n, iC d, iC a, iC p, iC f, .d (D.sl (dI .i32 l) q)]] (toG []) 0 (bV true) (toG []) 0) ∧ (Fun 44 [.agg [iC c2, .d (D.sl (dI .i32 m) z)]] (toG []) 0 (bV false) (toG []) 0)) (l' := [(2, rV 0 0), (3, rV 1 0), (4, rV 2 0), (6, bV true)]) (g' := [(0, some (28, .ds [iD ch, iD n, iD d, iD a, iD p, iD f, D.sl (dI .i32 l) q])), (1, some (30, .ds [iD c2, D.sl (dI .i32 m) z])), (2, some (28, .ds [iD 0, iD 0, iD 0, iD 0, iD 0, iD 0, D.lit (.slice none 0 0)]))]) (nx' := 3) (by kernel_rfl) ⟨(by have h0 := (Q_rValid ch n d a p f l q (by omega) (by omega)); rw [hT] at h0; exact h0), (by have h0 := (G_rValid c2 m z (by omega) (by omega)); rw [hG] at h0; exact h0)⟩ ?_
  refine AW.cond_t (.tmp (Look.of rfl)) ?_
  refine AW.rgs [.no, .no, .no] [4, 5] [2] (P := True) (l' := [(4, rV 2 0), (5, iV 1)]) (g' := [(2, some (28, .ds [iD 0, iD 0, iD 0, iD 0, iD 0, iD 0, D.lit (.slice none 0 0)]))]) (nx' := 3) (by kernel_rfl) trivial ?_
  refine AW.ret ?_
  exact EndP.of (.inr rfl) [] (P := ((0 : Int) = 0) ∧ ((0 : Int) = 0) ∧ ((0 : Int) = 0) ∧ ((0 : Int) = 0) ∧ ((0 : Int) = 0) ∧ ((0 : Int) = 0) ∧ ((.slice none 0 0 : Value) = .slice none 0 0) ∧ ((1 : Int) = 1)) (by kernel_rfl) ⟨rfl, rfl, rfl, rfl, rfl, rfl, rfl, rfl⟩

set_option maxHeartbeats 4000000 in
set_option maxRecDepth 100000 in
theorem Q_rFeedE3 (ch n d a p f : Int) (l : List Int) (q : Nat) (c2 : Int) (m : List Int) (z : Nat) (hq : List.length l = q) (hm : q ≤ 100000000000000) (hz : List.length m = z) (hmz : z ≤ 100000000000000) (hT : (phB n d a p f && okB ch l) = true) (hG : okB c2 m = true) (hne : ¬ c2 = ch) : Fun 17 [.agg [iC ch, iC n, iC d, iC a, iC p, iC f, .d (D.sl (dI .i32 l) q)], .agg [iC c2, .d (D.sl (dI .i32 m) z)]] (toG []) 0 (.tup [.agg [iC 0, iC 0, iC 0, iC 0, iC 0, iC 0, .d (D.lit (.slice none 0 0))], iE 11]) (toG []) 0 := by
  refine Fun.mk (n := 44) Try.func17 rfl rfl (Nat.le_of_ble_eq_true rfl) ?_
  intro cx hcx
  refine AW.rgs [.no, .no, .no, .no] [2, 3, 4] [0, 1, 2] (P := True) (l' := [(2, rV 0 0), (3, rV 1 0), (4, rV 2 0)]) (g' := [(0, some (28, .ds [iD ch, iD n, iD d, iD a, iD p, iD f, D.sl (dI .i32 l) q])), (1, some (30, .ds [iD c2, D.sl (dI .i32 m) z])), (2, some (28, .ds [iD 0, iD 0, iD 0, iD 0, iD 0, iD 0, D.lit (.slice none 0 0)]))]) (nx' := 3) (by kernel_rfl) trivial ?_
  refine AW.seq ?_
  refine AW.block ?_
  refine AW.rgs [.no, .call [] (bV true) [] 0 [] none, .no, .no, .no, .call [] (bV true) [] 0 [] none, .no, .no, .no] [2, 3, 4, 6] [0, 1, 2] (P := (Fun 20 [.agg [iC ch, iC n, iC d, iC a, iC p, iC f, .d (D.sl (dI .i32 l) q)]] (toG []) 0 (bV true) (toG []) 0) ∧ (Fun 44 [.agg [iC c2, .d (D.sl (dI .i32 m) z)]] (toG []) 0 (bV true) (toG []) 0)) (l' := [(2, rV 0 0), (3, rV 1 0), (4, rV 2 0), (6, bV false)]) (g' := [(0, some (28, .ds [iD ch, iD n, iD d, iD a, iD p, iD f, D.sl (dI .i32 l) q])), (1, some (30, .ds [iD c2, D.sl (dI .i32 m) z])), (2, some (28, .ds [iD 0, iD 0, iD 0, iD 0, iD 0, iD 0, D.lit (.slice none 0 0)]))]) (nx' := 3) (by kernel_rfl) ⟨(by have h0 := (Q_rValid ch n d a p f l q (by omega) (by omega)); rw [hT] at h0; exact h0), (by have h0 := (G_rValid c2 m z (by omega) (by omega)); rw [hG] at h0; exact h0)⟩ ?_
  refine AW.cond_f (.tmp (Look.of rfl)) ?_
  refine AW.rgs [.no, .no, .no, .no, .b true, .no] [2, 3, 4, 16] [0, 1, 2] (P := ((c2 ≠ ch))) (l' := [(2, rV 0 0), (3, rV 1 0), (4, rV 2 0), (16, bV true)]) (g' := [(0, some (28, .ds [iD ch, iD n, iD d, iD a, iD p, iD f, D.sl (dI .i32 l) q])), (1, some (30, .ds [iD c2, D.sl (dI .i32 m) z])), (2, some (28, .ds [iD 0, iD 0, iD 0, iD 0, iD 0, iD 0, D.lit (.slice none 0 0)]))]) (nx' := 3) (by kernel_rfl) (by omega) ?_
  refine AW.cond_t (.tmp (Look.of rfl)) ?_
  refine AW.rgs [.no, .no, .no] [4, 5] [2] (P := True) (l' := [(4, rV 2 0), (5, iV 11)]) (g' := [(2, some (28, .ds [iD 0, iD 0, iD 0, iD 0, iD 0, iD 0, D.lit (.slice none 0 0)]))]) (nx' := 3) (by kernel_rfl) trivial ?_
  refine AW.ret ?_
  exact EndP.of (.inr rfl) [] (P := ((0 : Int) = 0) ∧ ((0 : Int) = 0) ∧ ((0 : Int) = 0) ∧ ((0 : Int) = 0) ∧ ((0 : Int) = 0) ∧ ((0 : Int) = 0) ∧ ((.slice none 0 0 : Value) = .slice none 0 0) ∧ ((11 : Int) = 11)) (by kernel_rfl) ⟨rfl, rfl, rfl, rfl, rfl, rfl, rfl, rfl⟩

set_option maxHeartbeats 4000000 in
set_option maxRecDepth 100000 in
theorem Q_NewF (ch n d : Int) (hF : (phB n d 0 0 0 && okB ch ([] : List Int)) = false) : Fun 23 [iE ch, .agg [iC n, iC d]] (toG []) 0 (.tup [.agg [iC 0, iC 0, iC 0, iC 0, iC 0, iC 0, .d (D.lit (.slice none 0 0))], iE 1]) (toG []) 0 := by
  refine Fun.mk (n := 26) Try.func23 rfl rfl (Nat.le_of_ble_eq_true rfl) ?_
  intro cx hcx
  refine AW.rgs [.no, .no, .no] [0, 3, 4] [0, 1] (P := True) (l' := [(0, iV ch), (3, rV 0 0), (4, rV 1 0)]) (g' := [(0, some (23, .ds [iD n, iD d])), (1, some (28, .ds [iD 0, iD 0, iD 0, iD 0, iD 0, iD 0, D.lit (.slice none 0 0)]))]) (nx' := 2) (by kernel_rfl) trivial ?_
  rcases Bool.eq_false_or_eq_true (phB n d 0 0 0) with hx1 | hx1
  · refine AW.rgs [.no, .call [] (.tup [.agg [iC n, iC d, iC 0, iC 0, iC 0], iE 0]) [] 0 [] none, .no, .no, .no, .no, .no, .no] [0, 4, 6, 7] [1, 2] (P := (_)) (l' := [(0, iV ch), (4, rV 1 0), (6, rV 2 0), (7, iV 0)]) (g' := [(1, some (28, .ds [iD 0, iD 0, iD 0, iD 0, iD 0, iD 0, D.lit (.slice none 0 0)])), (2, some (25, .ds [iD n, iD d, iD 0, iD 0, iD 0]))]) (nx' := 3) (by kernel_rfl) (P_New n d hx1) ?_
    refine AW.rgs [.no, .no, .no, .no, .no] [4, 7, 8] [1, 3] (P := True) (l' := [(4, rV 1 0), (7, iV 0), (8, rV 3 0)]) (g' := [(1, some (28, .ds [iD 0, iD 0, iD 0, iD 0, iD 0, iD 0, D.lit (.slice none 0 0)])), (3, some (28, .ds [iD ch, iD n, iD d, iD 0, iD 0, iD 0, D.lit (.slice none 0 0)]))]) (nx' := 4) (by kernel_rfl) trivial ?_
    refine AW.seq ?_
    refine AW.rgs [.no, .b false, .no, .no, .call [] (bV false) [] 0 [] none, .no, .no] [4, 8, 23] [1, 3] (P := (¬ ((0 : Int) ≠ 0)) ∧ (Fun 19 [.agg [iC ch, iC n, iC d, iC 0, iC 0, iC 0, .d (D.sl ([] : List D) 0)]] (toG []) 0 (bV false) (toG []) 0)) (l' := [(4, rV 1 0), (8, rV 3 0), (23, bV true)]) (g' := [(1, some (28, .ds [iD 0, iD 0, iD 0, iD 0, iD 0, iD 0, D.lit (.slice none 0 0)])), (3, some (28, .ds [iD ch, iD n, iD d, iD 0, iD 0, iD 0, D.lit (.slice none 0 0)]))]) (nx' := 4) (by kernel_rfl) ⟨(by omega), (by have h0 := (Q_Valid ch n d 0 0 0 ([] : List Int) 0 rfl (by omega)); rw [hF] at h0; exact h0)⟩ ?_
    refine AW.cond_t (.tmp (Look.of rfl)) ?_
    refine AW.rgs [.no, .no, .no] [4, 5] [1] (P := True) (l' := [(4, rV 1 0), (5, iV 1)]) (g' := [(1, some (28, .ds [iD 0, iD 0, iD 0, iD 0, iD 0, iD 0, D.lit (.slice none 0 0)]))]) (nx' := 4) (by kernel_rfl) trivial ?_
    refine AW.ret ?_
    exact EndP.of (.inr rfl) [] (P := ((0 : Int) = 0) ∧ ((0 : Int) = 0) ∧ ((0 : Int) = 0) ∧ ((0 : Int) = 0) ∧ ((0 : Int) = 0) ∧ ((0 : Int) = 0) ∧ ((.slice none 0 0 : Value) = .slice none 0 0) ∧ ((1 : Int) = 1)) (by kernel_rfl) ⟨rfl, rfl, rfl, rfl, rfl, rfl, rfl, rfl⟩
  · refine AW.rgs [.no, .call [] (.tup [.agg [iC 0, iC 0, iC 0, iC 0, iC 0], iE 1]) [] 0 [] none, .no, .no, .no, .no, .no, .no] [0, 4, 6, 7] [1, 2] (P := (_)) (l' := [(0, iV ch), (4, rV 1 0), (6, rV 2 0), (7, iV 1)]) (g' := [(1, some (28, .ds [iD 0, iD 0, iD 0, iD 0, iD 0, iD 0, D.lit (.slice none 0 0)])), (2, some (25, .ds [iD 0, iD 0, iD 0, iD 0, iD 0]))]) (nx' := 3) (by kernel_rfl) (P_New_no n d hx1) ?_
    refine AW.rgs [.no, .no, .no, .no, .no] [4, 7, 8] [1, 3] (P := True) (l' := [(4, rV 1 0), (7, iV 1), (8, rV 3 0)]) (g' := [(1, some (28, .ds [iD 0, iD 0, iD 0, iD 0, iD 0, iD 0, D.lit (.slice none 0 0)])), (3, some (28, .ds [iD ch, iD 0, iD 0, iD 0, iD 0, iD 0, D.lit (.slice none 0 0)]))]) (nx' := 4) (by kernel_rfl) trivial ?_
    refine AW.seq ?_
    refine AW.rgs [.no, .b true, .no, .no] [4, 8, 23] [1, 3] (P := (((1 : Int) ≠ 0))) (l' := [(4, rV 1 0), (8, rV 3 0), (23, bV true)]) (g' := [(1, some (28, .ds [iD 0, iD 0, iD 0, iD 0, iD 0, iD 0, D.lit (.slice none 0 0)])), (3, some (28, .ds [iD ch, iD 0, iD 0, iD 0, iD 0, iD 0, D.lit (.slice none 0 0)]))]) (nx' := 4) (by kernel_rfl) (by omega) ?_
    refine AW.cond_t (.tmp (Look.of rfl)) ?_
    refine AW.rgs [.no, .no, .no] [4, 5] [1] (P := True) (l' := [(4, rV 1 0), (5, iV 1)]) (g' := [(1, some (28, .ds [iD 0, iD 0, iD 0, iD 0, iD 0, iD 0, D.lit (.slice none 0 0)]))]) (nx' := 4) (by kernel_rfl) trivial ?_
    refine AW.ret ?_
    exact EndP.of (.inr rfl) [] (P := ((0 : Int) = 0) ∧ ((0 : Int) = 0) ∧ ((0 : Int) = 0) ∧ ((0 : Int) = 0) ∧ ((0 : Int) = 0) ∧ ((0 : Int) = 0) ∧ ((.slice none 0 0 : Value) = .slice none 0 0) ∧ ((1 : Int) = 1)) (by kernel_rfl) ⟨rfl, rfl, rfl, rfl, rfl, rfl, rfl, rfl⟩

set_option maxHeartbeats 4000000 in
set_option maxRecDepth 100000 in
theorem Q_NewT (ch n d : Int) (hT : (phB n d 0 0 0 && okB ch ([] : List Int)) = true) : Fun 23 [iE ch, .agg [iC n, iC d]] (toG []) 0 (.tup [.agg [iC ch, iC n, iC d, iC 0, iC 0, iC 0, .d (D.lit (.slice none 0 0))], iE 0]) (toG []) 0 := by
  have hph : phB n d 0 0 0 = true := (Bool.and_eq_true _ _ ▸ hT).1
  refine Fun.mk (n := 26) Try.func23 rfl rfl (Nat.le_of_ble_eq_true rfl) ?_
  intro cx hcx
  refine AW.rgs [.no, .no, .no] [0, 3, 4] [0, 1] (P := True) (l' := [(0, iV ch), (3, rV 0 0), (4, rV 1 0)]) (g' := [(0, some (23, .ds [iD n, iD d])), (1, some (28, .ds [iD 0, iD 0, iD 0, iD 0, iD 0, iD 0, D.lit (.slice none 0 0)]))]) (nx' := 2) (by kernel_rfl) trivial ?_
  refine AW.rgs [.no, .call [] (.tup [.agg [iC n, iC d, iC 0, iC 0, iC 0], iE 0]) [] 0 [] none, .no, .no, .no, .no, .no, .no] [0, 4, 6, 7] [1, 2] (P := (_)) (l' := [(0, iV ch), (4, rV 1 0), (6, rV 2 0), (7, iV 0)]) (g' := [(1, some (28, .ds [iD 0, iD 0, iD 0, iD 0, iD 0, iD 0, D.lit (.slice none 0 0)])), (2, some (25, .ds [iD n, iD d, iD 0, iD 0, iD 0]))]) (nx' := 3) (by kernel_rfl) (P_New n d hph) ?_
  refine AW.rgs [.no, .no, .no, .no, .no] [4, 7, 8] [1, 3] (P := True) (l' := [(4, rV 1 0), (7, iV 0), (8, rV 3 0)]) (g' := [(1, some (28, .ds [iD 0, iD 0, iD 0, iD 0, iD 0, iD 0, D.lit (.slice none 0 0)])), (3, some (28, .ds [iD ch, iD n, iD d, iD 0, iD 0, iD 0, D.lit (.slice none 0 0)]))]) (nx' := 4) (by kernel_rfl) trivial ?_
  refine AW.seq ?_
  refine AW.rgs [.no, .b false, .no, .no, .call [] (bV true) [] 0 [] none, .no, .no] [4, 8, 23] [1, 3] (P := (¬ ((0 : Int) ≠ 0)) ∧ (Fun 19 [.agg [iC ch, iC n, iC d, iC 0, iC 0, iC 0, .d (D.sl ([] : List D) 0)]] (toG []) 0 (bV true) (toG []) 0)) (l' := [(4, rV 1 0), (8, rV 3 0), (23, bV false)]) (g' := [(1, some (28, .ds [iD 0, iD 0, iD 0, iD 0, iD 0, iD 0, D.lit (.slice none 0 0)])), (3, some (28, .ds [iD ch, iD n, iD d, iD 0, iD 0, iD 0, D.lit (.slice none 0 0)]))]) (nx' := 4) (by kernel_rfl) ⟨(by omega), (by have h0 := (Q_Valid ch n d 0 0 0 ([] : List Int) 0 rfl (by omega)); rw [hT] at h0; exact h0)⟩ ?_
  refine AW.cond_f (.tmp (Look.of rfl)) ?_
  refine AW.skip ?_
  refine AW.rgs [.no, .no, .no] [4, 5] [1] (P := True) (l' := [(4, rV 1 0), (5, iV 0)]) (g' := [(1, some (28, .ds [iD ch, iD n, iD d, iD 0, iD 0, iD 0, D.lit (.slice none 0 0)]))]) (nx' := 4) (by kernel_rfl) trivial ?_
  refine AW.ret ?_
  exact EndP.of (.inr rfl) [] (P := ((ch : Int) = ch) ∧ ((n : Int) = n) ∧ ((d : Int) = d) ∧ ((0 : Int) = 0) ∧ ((0 : Int) = 0) ∧ ((0 : Int) = 0) ∧ ((.slice none 0 0 : Value) = .slice none 0 0) ∧ ((0 : Int) = 0)) (by kernel_rfl) ⟨rfl, rfl, rfl, rfl, rfl, rfl, rfl, rfl⟩

set_option maxHeartbeats 4000000 in
set_option maxRecDepth 100000 in
theorem Q_rNewF (ch n d : Int) (hF : (phB n d 0 0 0 && okB ch ([] : List Int)) = false) : Fun 24 [iE ch, .agg [iC n, iC d]] (toG []) 0 (.tup [.agg [iC 0, iC 0, iC 0, iC 0, iC 0, iC 0, .d (D.lit (.slice none 0 0))], iE 1]) (toG []) 0 := by
  refine Fun.mk (n := 16) Try.func24 rfl rfl (Nat.le_of_ble_eq_true rfl) ?_
  intro cx hcx
  refine AW.rgs [.no, .no, .no] [0, 3, 4] [0, 1] (P := True) (l' := [(0, iV ch), (3, rV 0 0), (4, rV 1 0)]) (g' := [(0, some (23, .ds [iD n, iD d])), (1, some (28, .ds [iD 0, iD 0, iD 0, iD 0, iD 0, iD 0, D.lit (.slice none 0 0)]))]) (nx' := 2) (by kernel_rfl) trivial ?_
  refine AW.rgs [.no, .no, .no, .no, .no, .no] [4, 6] [1, 2] (P := True) (l' := [(4, rV 1 0), (6, rV 2 0)]) (g' := [(1, some (28, .ds [iD 0, iD 0, iD 0, iD 0, iD 0, iD 0, D.lit (.slice none 0 0)])), (2, some (28, .ds [iD ch, iD n, iD d, iD 0, iD 0, iD 0, D.lit (.slice none 0 0)]))]) (nx' := 3) (by kernel_rfl) trivial ?_
  refine AW.seq ?_
  refine AW.rgs [.no, .call [] (bV false) [] 0 [] none, .no] [4, 6, 13] [1, 2] (P := (Fun 20 [.agg [iC ch, iC n, iC d, iC 0, iC 0, iC 0, .d (D.sl ([] : List D) 0)]] (toG []) 0 (bV false) (toG []) 0)) (l' := [(4, rV 1 0), (6, rV 2 0), (13, bV true)]) (g' := [(1, some (28, .ds [iD 0, iD 0, iD 0, iD 0, iD 0, iD 0, D.lit (.slice none 0 0)])), (2, some (28, .ds [iD ch, iD n, iD d, iD 0, iD 0, iD 0, D.lit (.slice none 0 0)]))]) (nx' := 3) (by kernel_rfl) (by have h0 := (Q_rValid ch n d 0 0 0 ([] : List Int) 0 rfl (by omega)); rw [hF] at h0; exact h0) ?_
  refine AW.cond_t (.tmp (Look.of rfl)) ?_
  refine AW.rgs [.no, .no, .no] [4, 5] [1] (P := True) (l' := [(4, rV 1 0), (5, iV 1)]) (g' := [(1, some (28, .ds [iD 0, iD 0, iD 0, iD 0, iD 0, iD 0, D.lit (.slice none 0 0)]))]) (nx' := 3) (by kernel_rfl) trivial ?_
  refine AW.ret ?_
  exact EndP.of (.inr rfl) [] (P := ((0 : Int) = 0) ∧ ((0 : Int) = 0) ∧ ((0 : Int) = 0) ∧ ((0 : Int) = 0) ∧ ((0 : Int) = 0) ∧ ((0 : Int) = 0) ∧ ((.slice none 0 0 : Value) = .slice none 0 0) ∧ ((1 : Int) = 1)) (by kernel_rfl) ⟨rfl, rfl, rfl, rfl, rfl, rfl, rfl, rfl⟩

set_option maxHeartbeats 4000000 in
set_option maxRecDepth 100000 in
theorem Q_rNewT (ch n d : Int) (hT : (phB n d 0 0 0 && okB ch ([] : List Int)) = true) : Fun 24 [iE ch, .agg [iC n, iC d]] (toG []) 0 (.tup [.agg [iC ch, iC n, iC d, iC 0, iC 0, iC 0, .d (D.lit (.slice none 0 0))], iE 0]) (toG []) 0 := by
  have hph : phB n d 0 0 0 = true := (Bool.and_eq_true _ _ ▸ hT).1
  refine Fun.mk (n := 16) Try.func24 rfl rfl (Nat.le_of_ble_eq_true rfl) ?_
  intro cx hcx
  refine AW.rgs [.no, .no, .no] [0, 3, 4] [0, 1] (P := True) (l' := [(0, iV ch), (3, rV 0 0), (4, rV 1 0)]) (g' := [(0, some (23, .ds [iD n, iD d])), (1, some (28, .ds [iD 0, iD 0, iD 0, iD 0, iD 0, iD 0, D.lit (.slice none 0 0)]))]) (nx' := 2) (by kernel_rfl) trivial ?_
  refine AW.rgs [.no, .no, .no, .no, .no, .no] [4, 6] [1, 2] (P := True) (l' := [(4, rV 1 0), (6, rV 2 0)]) (g' := [(1, some (28, .ds [iD 0, iD 0, iD 0, iD 0, iD 0, iD 0, D.lit (.slice none 0 0)])), (2, some (28, .ds [iD ch, iD n, iD d, iD 0, iD 0, iD 0, D.lit (.slice none 0 0)]))]) (nx' := 3) (by kernel_rfl) trivial ?_
  refine AW.seq ?_
  refine AW.rgs [.no, .call [] (bV true) [] 0 [] none, .no] [4, 6, 13] [1, 2] (P := (Fun 20 [.agg [iC ch, iC n, iC d, iC 0, iC 0, iC 0, .d (D.sl ([] : List D) 0)]] (toG []) 0 (bV true) (toG []) 0)) (l' := [(4, rV 1 0), (6, rV 2 0), (13, bV false)]) (g' := [(1, some (28, .ds [iD 0, iD 0, iD 0, iD 0, iD 0, iD 0, D.lit (.slice none 0 0)])), (2, some (28, .ds [iD ch, iD n, iD d, iD 0, iD 0, iD 0, D.lit (.slice none 0 0)]))]) (nx' := 3) (by kernel_rfl) (by have h0 := (Q_rValid ch n d 0 0 0 ([] : List Int) 0 rfl (by omega)); rw [hT] at h0; exact h0) ?_
  refine AW.cond_f (.tmp (Look.of rfl)) ?_
  refine AW.skip ?_
  refine AW.rgs [.no, .no, .no] [4, 5] [1] (P := True) (l' := [(4, rV 1 0), (5, iV 0)]) (g' := [(1, some (28, .ds [iD ch, iD n, iD d, iD 0, iD 0, iD 0, D.lit (.slice none 0 0)]))]) (nx' := 3) (by kernel_rfl) trivial ?_
  refine AW.ret ?_
  exact EndP.of (.inr rfl) [] (P := ((ch : Int) = ch) ∧ ((n : Int) = n) ∧ ((d : Int) = d) ∧ ((0 : Int) = 0) ∧ ((0 : Int) = 0) ∧ ((0 : Int) = 0) ∧ ((.slice none 0 0 : Value) = .slice none 0 0) ∧ ((0 : Int) = 0)) (by kernel_rfl) ⟨rfl, rfl, rfl, rfl, rfl, rfl, rfl, rfl⟩

end Go.Proofs.Ytpikmjikoifjeaa
