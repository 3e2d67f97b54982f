/- Plans. No statement is proved here. -/
import Derived.Test.YtfcdndlnjdelmaaL18C
namespace Go.Proofs.Ytfcdndlnjdelmaa
open Go.ChangeShapes Go.WideShapes Go.ChangeAt Go.RowKit
set_option linter.unusedVariables false
set_option linter.unusedSimpArgs false

def ceV (n y : Int) : Int := (n + y - 1) / y
theorem ce_in {n y : Int} (hn : 0 ≤ n) (hy : 1 ≤ y) : 0 ≤ ceV n y ∧ ceV n y ≤ n := by
  unfold ceV
  have h1 : 0 ≤ (n + y - 1) / y := Int.ediv_nonneg (by omega) (by omega)
  have h2 : (n + y - 1) / y < n + 1 := by
    rw [Int.ediv_lt_iff_lt_mul (by omega)]
    have h3 := Int.mul_le_mul_of_nonneg_left hy hn
    rw [Int.add_mul]; omega
  omega
theorem ce_up {n y : Int} (hy : 1 ≤ y) : n ≤ ceV n y * y := by
  unfold ceV
  have h1 := Int.mul_ediv_add_emod (n + y - 1) y
  have h2 := Int.emod_lt_of_pos (n + y - 1) (show 0 < y by omega)
  rw [Int.mul_comm] at h1
  omega
def twV (p q t : Int) : Int := ceV (2 * p * t) (q * 65536)
theorem tw_in {p q t : Int} (hp : 1 ≤ p ∧ p ≤ 68719476736) (hq : 1 ≤ q) (ht : 0 ≤ t ∧ t ≤ 8192) : 0 ≤ twV p q t ∧ twV p q t ≤ 1125899906842624 := by
  have h1 := mul_b (x := 2 * p) (y := t) (X := 137438953472) (Y := 8192) (by omega) ht
  have h2 := ce_in h1.1 (show 1 ≤ q * 65536 by omega)
  unfold twV
  omega
def boV (p q dr ji de mo ga s : Int) : Int := max s (de + ceV mo ga) + twV p q (dr + mo) + 2 * ji + 2
def dmV (p q dr ji mo : Int) : Int := ceV p q + twV p q (dr + mo) + 2 * ji + 3
theorem dec_mono {a b p q dr ji dr' ji' : Int} {ls : List Int} {n : Nat} (h : decB a b p q dr ji ls n = true) (h1 : dr ≤ dr') (h2 : dr' ≤ 4096) (h3 : ji ≤ ji') (h4 : ji' ≤ 65536) : decB a b p q dr' ji' ls n = true := by
  have h := dec_of h
  obtain ⟨g1, g2⟩ := dc_of h.hd
  have g3 := ratOk_of (pos_of g1).1
  have g4 := ratOk_of h.hb
  refine dec_t ⟨h.hb, h.ha, dc_t g1 (by omega), h.hn, h.ht, fun i k hi hk => ?_⟩
  have e := h.hw i k hi hk
  have m1 : 0 ≤ ((k : Int) - (i : Int)) * p * b := Int.mul_nonneg (Int.mul_nonneg (by omega) (by omega)) (by omega)
  have m2 := Int.mul_le_mul_of_nonneg_left h1 m1
  have m3 : ji * b * q ≤ ji' * b * q := Int.mul_le_mul_of_nonneg_right (Int.mul_le_mul_of_nonneg_right h3 (by omega)) (by omega)
  unfold neP nrP at *
  omega

set_option maxHeartbeats 4000000 in
set_option maxRecDepth 100000 in
theorem Y_ceil (n y : Int) (hn : 0 ≤ n ∧ n ≤ 1125899906842624) (hy : 1 ≤ y ∧ y ≤ 1125899906842624) : Fun 33 [iE n, iE y] (toG []) 0 (iV (ceV n y)) (toG []) 0 := by
  have hci : 0 ≤ ceV n y ∧ ceV n y ≤ n := ce_in hn.1 hy.1
  have hcd : ceV n y = (n + y - 1) / y := rfl
  refine Fun.mk (n := 11) Try.func33 rfl rfl (Nat.le_of_ble_eq_true rfl) ?_
  intro cx hcx
  refine AW.rgs [.no] [0, 1] [] (P := True) (l' := [(0, iV n), (1, iV y)]) (g' := []) (nx' := 0) (by kernel_rfl) trivial ?_
  refine AW.rgs [.no, .no, .w, .w, .no, .ps, .no] [4] [] (P := ((-9223372036854775808) ≤ (n + y) ∧ (n + y) ≤ 9223372036854775807) ∧ ((-9223372036854775808) ≤ ((n + y) - 1) ∧ ((n + y) - 1) ≤ 9223372036854775807) ∧ ((0 : Int) ≤ (((n + y) - 1) : Int)) ∧ ((0 : Int) < (y : Int)) ∧ ((-9223372036854775808) ≤ ((n + y) - 1) ∧ ((n + y) - 1) ≤ 9223372036854775807)) (l' := [(4, iV (((n + y) - 1) / y))]) (g' := []) (nx' := 0) (by kernel_rfl) ⟨⟨by omega, by omega⟩, ⟨by omega, by omega⟩, (by omega), (by omega), ⟨by omega, by omega⟩⟩ ?_
  refine AW.ret ?_
  exact EndP.of (.inr rfl) [] (P := (((ceV n y) : Int) = (((n + y) - 1) / y))) (by kernel_rfl) (by first | rfl | omega)

set_option maxHeartbeats 4000000 in
set_option maxRecDepth 100000 in
theorem Y_twice (p q t : Int) (hp : 1 ≤ p ∧ p ≤ 68719476736) (hq : 1 ≤ q ∧ q ≤ 768000) (ht : 0 ≤ t ∧ t ≤ 8192) : Fun 34 [.agg [iC p, iC q], iE t] (toG []) 0 (iV (twV p q t)) (toG []) 0 := by
  have htm : 0 ≤ 2 * p * t ∧ 2 * p * t ≤ 1125899906842624 := by have h9 := mul_b (x := 2 * p) (y := t) (X := 137438953472) (Y := 8192) (by omega) ht; omega
  have htd : twV p q t = ceV (2 * p * t) (q * 65536) := rfl
  refine Fun.mk (n := 14) Try.func34 rfl rfl (Nat.le_of_ble_eq_true rfl) ?_
  intro cx hcx
  refine AW.rgs [.no, .no] [1, 2] [0] (P := True) (l' := [(1, iV t), (2, rV 0 0)]) (g' := [(0, some (23, .ds [iD p, iD q]))]) (nx' := 1) (by kernel_rfl) trivial ?_
  have hx1 : (((0 : Int) ≤ (ceV ((2 * p) * t) (q * 65536))) ∧ ((ceV ((2 * p) * t) (q * 65536)) ≤ ((2 * p) * t))) := (ce_in (by omega) (by omega))
  have hx2 : (((2 * p) * t) ≤ ((ceV ((2 * p) * t) (q * 65536)) * (q * 65536))) := (ce_up (by omega))
  refine AW.rgs [.no, .no, .w, .no, .w, .no, .no, .w, .call [] (iV (ceV ((2 * p) * t) (q * 65536))) [] 0 [] none, .no] [4] [] (P := ((-9223372036854775808) ≤ (2 * p) ∧ (2 * p) ≤ 9223372036854775807) ∧ ((-9223372036854775808) ≤ ((2 * p) * t) ∧ ((2 * p) * t) ≤ 9223372036854775807) ∧ ((-9223372036854775808) ≤ (q * 65536) ∧ (q * 65536) ≤ 9223372036854775807) ∧ (_)) (l' := [(4, iV (ceV ((2 * p) * t) (q * 65536)))]) (g' := []) (nx' := 1) (by kernel_rfl) ⟨⟨by omega, by omega⟩, ⟨by omega, by omega⟩, ⟨by omega, by omega⟩, (Y_ceil ((2 * p) * t) (q * 65536) (by omega) (by omega))⟩ ?_
  refine AW.ret ?_
  exact EndP.of (.inr rfl) [] (P := (((twV p q t) : Int) = (ceV ((2 * p) * t) (q * 65536)))) (by kernel_rfl) (by first | rfl | omega)

set_option maxHeartbeats 4000000 in
set_option maxRecDepth 100000 in
theorem Y_ValidG (x de ga mo : Int)  : Fun 14 [.agg [iC x, iC de, iC ga, iC mo]] (toG []) 0 (.e (.c (.d (D.lit (.bool (decide (0 ≤ x ∧ x ≤ 65536 ∧ 0 ≤ de ∧ de ≤ 65536 ∧ 1 ≤ ga ∧ ga ≤ 4096 ∧ 0 ≤ mo ∧ mo ≤ 4096))))))) (toG []) 0 := by
  refine Fun.mk (n := 21) Try.func14 rfl rfl (Nat.le_of_ble_eq_true rfl) ?_
  intro cx hcx
  refine AW.rgs [.no, .no] [1] [0] (P := True) (l' := [(1, rV 0 0)]) (g' := [(0, some (35, .ds [iD x, iD de, iD ga, iD mo]))]) (nx' := 1) (by kernel_rfl) trivial ?_
  rcases Bool.eq_false_or_eq_true (decide (0 ≤ x ∧ x ≤ 65536)) with hx1 | hx1
  · have hx2 : (((0 : Int) ≤ x) ∧ (x ≤ 65536)) := of_decide_eq_true hx1
    rcases Bool.eq_false_or_eq_true (decide (0 ≤ de ∧ de ≤ 65536)) with hx3 | hx3
    · have hx4 : (((0 : Int) ≤ de) ∧ (de ≤ 65536)) := of_decide_eq_true hx3
      rcases Bool.eq_false_or_eq_true (decide (1 ≤ ga ∧ ga ≤ 4096)) with hx5 | hx5
      · have hx6 : (((1 : Int) ≤ ga) ∧ (ga ≤ 4096)) := of_decide_eq_true hx5
        rcases Bool.eq_false_or_eq_true (decide (0 ≤ mo ∧ mo ≤ 4096)) with hx7 | hx7
        · have hx8 : (((0 : Int) ≤ mo) ∧ (mo ≤ 4096)) := of_decide_eq_true hx7
          refine AW.rgs [.no, .no, .call [] (bV true) [] 0 [] none, .no, .no, .no, .call [] (bV true) [] 0 [] none, .no, .no, .no, .no, .call [] (bV true) [] 0 [] none, .no, .no, .no, .no, .call [] (bV true) [] 0 [] none, .no, .no] [2] [] (P := (Fun 18 [iE x, iE 0, iE 65536] (toG []) 0 (bV true) (toG []) 0) ∧ (Fun 18 [iE de, iE 0, iE 65536] (toG []) 0 (bV true) (toG []) 0) ∧ (Fun 18 [iE ga, iE 1, iE 4096] (toG []) 0 (bV true) (toG []) 0) ∧ (Fun 18 [iE mo, iE 0, iE 4096] (toG []) 0 (bV true) (toG []) 0)) (l' := [(2, bV true)]) (g' := []) (nx' := 1) (by kernel_rfl) ⟨(by have h0 := (Y_within x 0 65536); rw [hx1] at h0; exact h0), (by have h0 := (Y_within de 0 65536); rw [hx3] at h0; exact h0), (by have h0 := (Y_within ga 1 4096); rw [hx5] at h0; exact h0), (by have h0 := (Y_within mo 0 4096); rw [hx7] at h0; exact h0)⟩ ?_
          refine AW.ret ?_
          exact EndP.of (.inr rfl) [] (P := ((decide (0 ≤ x ∧ x ≤ 65536 ∧ 0 ≤ de ∧ de ≤ 65536 ∧ 1 ≤ ga ∧ ga ≤ 4096 ∧ 0 ≤ mo ∧ mo ≤ 4096)) = true)) (by kernel_rfl) (by first | exact decide_eq_true (by omega) | exact decide_eq_false (by omega))
        · have hx9 : ¬ (((0 : Int) ≤ mo) ∧ (mo ≤ 4096)) := of_decide_eq_false hx7
          refine AW.rgs [.no, .no, .call [] (bV true) [] 0 [] none, .no, .no, .no, .call [] (bV true) [] 0 [] none, .no, .no, .no, .no, .call [] (bV true) [] 0 [] none, .no, .no, .no, .no, .call [] (bV false) [] 0 [] none, .no, .no] [2] [] (P := (Fun 18 [iE x, iE 0, iE 65536] (toG []) 0 (bV true) (toG []) 0) ∧ (Fun 18 [iE de, iE 0, iE 65536] (toG []) 0 (bV true) (toG []) 0) ∧ (Fun 18 [iE ga, iE 1, iE 4096] (toG []) 0 (bV true) (toG []) 0) ∧ (Fun 18 [iE mo, iE 0, iE 4096] (toG []) 0 (bV false) (toG []) 0)) (l' := [(2, bV false)]) (g' := []) (nx' := 1) (by kernel_rfl) ⟨(by have h0 := (Y_within x 0 65536); rw [hx1] at h0; exact h0), (by have h0 := (Y_within de 0 65536); rw [hx3] at h0; exact h0), (by have h0 := (Y_within ga 1 4096); rw [hx5] at h0; exact h0), (by have h0 := (Y_within mo 0 4096); rw [hx7] at h0; exact h0)⟩ ?_
          refine AW.ret ?_
          exact EndP.of (.inr rfl) [] (P := ((decide (0 ≤ x ∧ x ≤ 65536 ∧ 0 ≤ de ∧ de ≤ 65536 ∧ 1 ≤ ga ∧ ga ≤ 4096 ∧ 0 ≤ mo ∧ mo ≤ 4096)) = false)) (by kernel_rfl) (by first | exact decide_eq_true (by omega) | exact decide_eq_false (by omega))
      · have hx10 : ¬ (((1 : Int) ≤ ga) ∧ (ga ≤ 4096)) := of_decide_eq_false hx5
        refine AW.rgs [.no, .no, .call [] (bV true) [] 0 [] none, .no, .no, .no, .call [] (bV true) [] 0 [] none, .no, .no, .no, .no, .call [] (bV false) [] 0 [] none, .no, .no, .no, .no] [2] [] (P := (Fun 18 [iE x, iE 0, iE 65536] (toG []) 0 (bV true) (toG []) 0) ∧ (Fun 18 [iE de, iE 0, iE 65536] (toG []) 0 (bV true) (toG []) 0) ∧ (Fun 18 [iE ga, iE 1, iE 4096] (toG []) 0 (bV false) (toG []) 0)) (l' := [(2, bV false)]) (g' := []) (nx' := 1) (by kernel_rfl) ⟨(by have h0 := (Y_within x 0 65536); rw [hx1] at h0; exact h0), (by have h0 := (Y_within de 0 65536); rw [hx3] at h0; exact h0), (by have h0 := (Y_within ga 1 4096); rw [hx5] at h0; exact h0)⟩ ?_
        refine AW.ret ?_
        exact EndP.of (.inr rfl) [] (P := ((decide (0 ≤ x ∧ x ≤ 65536 ∧ 0 ≤ de ∧ de ≤ 65536 ∧ 1 ≤ ga ∧ ga ≤ 4096 ∧ 0 ≤ mo ∧ mo ≤ 4096)) = false)) (by kernel_rfl) (by first | exact decide_eq_true (by omega) | exact decide_eq_false (by omega))
    · have hx11 : ¬ (((0 : Int) ≤ de) ∧ (de ≤ 65536)) := of_decide_eq_false hx3
      refine AW.rgs [.no, .no, .call [] (bV true) [] 0 [] none, .no, .no, .no, .call [] (bV false) [] 0 [] none, .no, .no, .no, .no, .no, .no] [2] [] (P := (Fun 18 [iE x, iE 0, iE 65536] (toG []) 0 (bV true) (toG []) 0) ∧ (Fun 18 [iE de, iE 0, iE 65536] (toG []) 0 (bV false) (toG []) 0)) (l' := [(2, bV false)]) (g' := []) (nx' := 1) (by kernel_rfl) ⟨(by have h0 := (Y_within x 0 65536); rw [hx1] at h0; exact h0), (by have h0 := (Y_within de 0 65536); rw [hx3] at h0; exact h0)⟩ ?_
      refine AW.ret ?_
      exact EndP.of (.inr rfl) [] (P := ((decide (0 ≤ x ∧ x ≤ 65536 ∧ 0 ≤ de ∧ de ≤ 65536 ∧ 1 ≤ ga ∧ ga ≤ 4096 ∧ 0 ≤ mo ∧ mo ≤ 4096)) = false)) (by kernel_rfl) (by first | exact decide_eq_true (by omega) | exact decide_eq_false (by omega))
  · have hx12 : ¬ (((0 : Int) ≤ x) ∧ (x ≤ 65536)) := of_decide_eq_false hx1
    refine AW.rgs [.no, .no, .call [] (bV false) [] 0 [] none, .no, .no, .no, .no, .no, .no, .no] [2] [] (P := (Fun 18 [iE x, iE 0, iE 65536] (toG []) 0 (bV false) (toG []) 0)) (l' := [(2, bV false)]) (g' := []) (nx' := 1) (by kernel_rfl) (by have h0 := (Y_within x 0 65536); rw [hx1] at h0; exact h0) ?_
    refine AW.ret ?_
    exact EndP.of (.inr rfl) [] (P := ((decide (0 ≤ x ∧ x ≤ 65536 ∧ 0 ≤ de ∧ de ≤ 65536 ∧ 1 ≤ ga ∧ ga ≤ 4096 ∧ 0 ≤ mo ∧ mo ≤ 4096)) = false)) (by kernel_rfl) (by first | exact decide_eq_true (by omega) | exact decide_eq_false (by omega))

set_option maxHeartbeats 4000000 in
set_option maxRecDepth 100000 in
theorem Y_check (x de ga mo p q dr ji s : Int) (hx : 0 ≤ x ∧ x ≤ 65536) (hde : 0 ≤ de ∧ de ≤ 65536) (hga : 1 ≤ ga ∧ ga ≤ 4096) (hmo : 0 ≤ mo ∧ mo ≤ 4096) (hd : dcB p q dr ji = true) (hm : 65536 * dr ≤ mo * (65536 - dr)) (hs : 0 ≤ s ∧ s ≤ 65536) : Fun 35 [.agg [iC x, iC de, iC ga, iC mo], .agg [iC p, iC q], iE dr, iE ji, iE s] (toG []) 0 (iV 0) (toG []) 0 := by
  have hdd : 0 ≤ dr ∧ dr ≤ 4096 ∧ 0 ≤ ji ∧ ji ≤ 65536 := (dc_of hd).2
  have hpq : 1 ≤ p ∧ p ≤ 68719476736 ∧ 1 ≤ q ∧ q ≤ 68719476736 := ratOk_of (pos_of (dc_of hd).1).1
  have hpp : q ≤ 64 * p ∧ p ≤ 524288 * q ∧ q ≤ 768000 := (pos_of (dc_of hd).1).2
  have hmm : 0 ≤ mo * (65536 - dr) ∧ mo * (65536 - dr) ≤ 268435456 := by have h9 := mul_b (x := mo) (y := 65536 - dr) (X := 4096) (Y := 65536) hmo (by omega); omega
  refine Fun.mk (n := 34) Try.func35 rfl rfl (Nat.le_of_ble_eq_true rfl) ?_
  intro cx hcx
  refine AW.rgs [.no, .no, .no] [2, 3, 4, 5, 6] [0, 1] (P := True) (l' := [(2, iV dr), (3, iV ji), (4, iV s), (5, rV 0 0), (6, rV 1 0)]) (g' := [(0, some (35, .ds [iD x, iD de, iD ga, iD mo])), (1, some (23, .ds [iD p, iD q]))]) (nx' := 2) (by kernel_rfl) trivial ?_
  refine AW.seq ?_
  refine AW.rgs [.no, .call [] (bV true) [] 0 [] none, .no, .no, .no, .no, .no, .call [] (bV true) [] 0 [] none, .no, .no, .no, .no, .call [] (bV true) [] 0 [] none, .no, .no] [2, 5, 25] [0] (P := (_) ∧ (Fun 17 [.agg [iC p, iC q], iE dr, iE ji] (toG []) 0 (bV true) (toG []) 0) ∧ (_)) (l' := [(2, iV dr), (5, rV 0 0), (25, bV false)]) (g' := [(0, some (35, .ds [iD x, iD de, iD ga, iD mo]))]) (nx' := 2) (by kernel_rfl) ⟨(Fun.y (Y_ValidG x de ga mo) (y' := bV true) (congrArg (fun b => LV (.bool b)) (decide_eq_true (by omega)))), (by have h0 := (Y_decl p q dr ji); rw [hd] at h0; exact h0), (Fun.y (Y_within s 0 65536) (y' := bV true) (congrArg (fun b => LV (.bool b)) (decide_eq_true (by omega))))⟩ ?_
  refine AW.cond_f (.tmp (Look.of rfl)) ?_
  refine AW.skip ?_
  refine AW.seq ?_
  refine AW.rgs [.no, .no, .no, .w, .w, .no, .w, .b false] [33] [] (P := ((-9223372036854775808) ≤ (65536 - dr) ∧ (65536 - dr) ≤ 9223372036854775807) ∧ ((-9223372036854775808) ≤ (mo * (65536 - dr)) ∧ (mo * (65536 - dr)) ≤ 9223372036854775807) ∧ ((-9223372036854775808) ≤ (65536 * dr) ∧ (65536 * dr) ≤ 9223372036854775807) ∧ (¬ ((mo * (65536 - dr)) < (65536 * dr)))) (l' := [(33, bV false)]) (g' := []) (nx' := 2) (by kernel_rfl) ⟨⟨by omega, by omega⟩, ⟨by omega, by omega⟩, ⟨by omega, by omega⟩, (by omega)⟩ ?_
  refine AW.cond_f (.tmp (Look.of rfl)) ?_
  refine AW.skip ?_
  refine AW.rgs [.no] [10] [] (P := True) (l' := [(10, iV 0)]) (g' := []) (nx' := 2) (by kernel_rfl) trivial ?_
  refine AW.ret ?_
  exact EndP.of (.inr rfl) [] (P := ((0 : Int) = 0)) (by kernel_rfl) rfl

set_option maxHeartbeats 4000000 in
set_option maxRecDepth 100000 in
theorem Y_Bound (x de ga mo p q dr ji s : Int) (hx : 0 ≤ x ∧ x ≤ 65536) (hde : 0 ≤ de ∧ de ≤ 65536) (hga : 1 ≤ ga ∧ ga ≤ 4096) (hmo : 0 ≤ mo ∧ mo ≤ 4096) (hd : dcB p q dr ji = true) (hm : 65536 * dr ≤ mo * (65536 - dr)) (hs : 0 ≤ s ∧ s ≤ 65536) : Fun 12 [.agg [iC x, iC de, iC ga, iC mo], .agg [iC p, iC q], iE dr, iE ji, iE s] (toG []) 0 (.tup [iE (boV p q dr ji de mo ga s), iE 0]) (toG []) 0 := by
  have hdd : 0 ≤ dr ∧ dr ≤ 4096 ∧ 0 ≤ ji ∧ ji ≤ 65536 := (dc_of hd).2
  have hpq : 1 ≤ p ∧ p ≤ 68719476736 ∧ 1 ≤ q ∧ q ≤ 68719476736 := ratOk_of (pos_of (dc_of hd).1).1
  have hpp : q ≤ 64 * p ∧ p ≤ 524288 * q ∧ q ≤ 768000 := (pos_of (dc_of hd).1).2
  have hmm : 0 ≤ mo * (65536 - dr) ∧ mo * (65536 - dr) ≤ 268435456 := by have h9 := mul_b (x := mo) (y := 65536 - dr) (X := 4096) (Y := 65536) hmo (by omega); omega
  have hbd : boV p q dr ji de mo ga s = max s (de + ceV mo ga) + twV p q (dr + mo) + 2 * ji + 2 := rfl
  have hpq9 : 1 ≤ p ∧ p ≤ 68719476736 := by omega
  have hqq9 : 1 ≤ q := by omega
  refine Fun.mk (n := 45) Try.func12 rfl rfl (Nat.le_of_ble_eq_true rfl) ?_
  intro cx hcx
  refine AW.rgs [.no, .no, .no, .no] [2, 3, 4, 5, 6] [0, 1] (P := True) (l' := [(2, iV dr), (3, iV ji), (4, iV s), (5, rV 0 0), (6, rV 1 0)]) (g' := [(0, some (35, .ds [iD x, iD de, iD ga, iD mo])), (1, some (23, .ds [iD p, iD q]))]) (nx' := 2) (by kernel_rfl) trivial ?_
  refine AW.seq ?_
  refine AW.rgs [.no, .no, .no, .no, .no, .call [] (iV 0) [] 0 [] none, .no] [2, 3, 4, 5, 6, 12] [0, 1] (P := (_)) (l' := [(2, iV dr), (3, iV ji), (4, iV s), (5, rV 0 0), (6, rV 1 0), (12, iV 0)]) (g' := [(0, some (35, .ds [iD x, iD de, iD ga, iD mo])), (1, some (23, .ds [iD p, iD q]))]) (nx' := 2) (by kernel_rfl) (Y_check x de ga mo p q dr ji s (by omega) (by omega) (by omega) (by omega) hd (by omega) (by omega)) ?_
  refine AW.rgs [.no, .b false] [2, 3, 4, 5, 6, 12, 21] [0, 1] (P := (¬ ((0 : Int) ≠ 0))) (l' := [(2, iV dr), (3, iV ji), (4, iV s), (5, rV 0 0), (6, rV 1 0), (12, iV 0), (21, bV false)]) (g' := [(0, some (35, .ds [iD x, iD de, iD ga, iD mo])), (1, some (23, .ds [iD p, iD q]))]) (nx' := 2) (by kernel_rfl) (by omega) ?_
  refine AW.cond_f (.tmp (Look.of rfl)) ?_
  refine AW.skip ?_
  have hx1 : (((0 : Int) ≤ (ceV mo ga)) ∧ ((ceV mo ga) ≤ mo)) := (ce_in (by omega) (by omega))
  have hx2 : (mo ≤ ((ceV mo ga) * ga)) := (ce_up (by omega))
  refine AW.rgs [.no, .no, .no, .no, .no, .no, .no, .call [] (iV (ceV mo ga)) [] 0 [] none, .w, .no, .no] [2, 3, 5, 6, 13] [0, 1] (P := (_) ∧ ((-9223372036854775808) ≤ (de + (ceV mo ga)) ∧ (de + (ceV mo ga)) ≤ 9223372036854775807)) (l' := [(2, iV dr), (3, iV ji), (5, rV 0 0), (6, rV 1 0), (13, iV (max s (de + (ceV mo ga))))]) (g' := [(0, some (35, .ds [iD x, iD de, iD ga, iD mo])), (1, some (23, .ds [iD p, iD q]))]) (nx' := 2) (by kernel_rfl) ⟨(Y_ceil mo ga (by omega) (by omega)), ⟨by omega, by omega⟩⟩ ?_
  have hx3 : (((0 : Int) ≤ (twV p q (dr + mo))) ∧ ((twV p q (dr + mo)) ≤ 1125899906842624)) := (tw_in (by omega) (by omega) (by omega))
  refine AW.rgs [.no, .no, .no, .no, .no, .w, .call [] (iV (twV p q (dr + mo))) [] 0 [] none, .w, .no, .w, .w, .w, .no, .no] [10, 11] [] (P := ((-9223372036854775808) ≤ (dr + mo) ∧ (dr + mo) ≤ 9223372036854775807) ∧ (_) ∧ ((-9223372036854775808) ≤ ((max s (de + (ceV mo ga))) + (twV p q (dr + mo))) ∧ ((max s (de + (ceV mo ga))) + (twV p q (dr + mo))) ≤ 9223372036854775807) ∧ ((-9223372036854775808) ≤ (2 * ji) ∧ (2 * ji) ≤ 9223372036854775807) ∧ ((-9223372036854775808) ≤ (((max s (de + (ceV mo ga))) + (twV p q (dr + mo))) + (2 * ji)) ∧ (((max s (de + (ceV mo ga))) + (twV p q (dr + mo))) + (2 * ji)) ≤ 9223372036854775807) ∧ ((-9223372036854775808) ≤ ((((max s (de + (ceV mo ga))) + (twV p q (dr + mo))) + (2 * ji)) + 2) ∧ ((((max s (de + (ceV mo ga))) + (twV p q (dr + mo))) + (2 * ji)) + 2) ≤ 9223372036854775807)) (l' := [(10, iV ((((max s (de + (ceV mo ga))) + (twV p q (dr + mo))) + (2 * ji)) + 2)), (11, iV 0)]) (g' := []) (nx' := 2) (by kernel_rfl) ⟨⟨by omega, by omega⟩, (Y_twice p q (dr + mo) (by omega) (by omega) (by omega)), ⟨by omega, by omega⟩, ⟨by omega, by omega⟩, ⟨by omega, by omega⟩, ⟨by omega, by omega⟩⟩ ?_
  refine AW.ret ?_
  exact EndP.of (.inr rfl) [] (P := (((boV p q dr ji de mo ga s) : Int) = ((((max s (de + (ceV mo ga))) + (twV p q (dr + mo))) + (2 * ji)) + 2)) ∧ ((0 : Int) = 0)) (by kernel_rfl) ⟨(by first | rfl | omega), rfl⟩

set_option maxHeartbeats 4000000 in
set_option maxRecDepth 100000 in
theorem Y_Demand (x de ga mo p q dr ji : Int) (hx : 0 ≤ x ∧ x ≤ 65536) (hde : 0 ≤ de ∧ de ≤ 65536) (hga : 1 ≤ ga ∧ ga ≤ 4096) (hmo : 0 ≤ mo ∧ mo ≤ 4096) (hd : dcB p q dr ji = true) (hm : 65536 * dr ≤ mo * (65536 - dr)) : Fun 13 [.agg [iC x, iC de, iC ga, iC mo], .agg [iC p, iC q], iE dr, iE ji] (toG []) 0 (.tup [iE (dmV p q dr ji mo), iE 0]) (toG []) 0 := by
  have hdd : 0 ≤ dr ∧ dr ≤ 4096 ∧ 0 ≤ ji ∧ ji ≤ 65536 := (dc_of hd).2
  have hpq : 1 ≤ p ∧ p ≤ 68719476736 ∧ 1 ≤ q ∧ q ≤ 68719476736 := ratOk_of (pos_of (dc_of hd).1).1
  have hpp : q ≤ 64 * p ∧ p ≤ 524288 * q ∧ q ≤ 768000 := (pos_of (dc_of hd).1).2
  have hmm : 0 ≤ mo * (65536 - dr) ∧ mo * (65536 - dr) ≤ 268435456 := by have h9 := mul_b (x := mo) (y := 65536 - dr) (X := 4096) (Y := 65536) hmo (by omega); omega
  have hdf : dmV p q dr ji mo = ceV p q + twV p q (dr + mo) + 2 * ji + 3 := rfl
  refine Fun.mk (n := 35) Try.func13 rfl rfl (Nat.le_of_ble_eq_true rfl) ?_
  intro cx hcx
  refine AW.rgs [.no, .no, .no, .no] [2, 3, 4, 5] [0, 1] (P := True) (l' := [(2, iV dr), (3, iV ji), (4, rV 0 0), (5, rV 1 0)]) (g' := [(0, some (35, .ds [iD x, iD de, iD ga, iD mo])), (1, some (23, .ds [iD p, iD q]))]) (nx' := 2) (by kernel_rfl) trivial ?_
  refine AW.seq ?_
  refine AW.rgs [.no, .no, .no, .no, .call [] (iV 0) [] 0 [] none, .no] [2, 3, 4, 5, 10] [0, 1] (P := (_)) (l' := [(2, iV dr), (3, iV ji), (4, rV 0 0), (5, rV 1 0), (10, iV 0)]) (g' := [(0, some (35, .ds [iD x, iD de, iD ga, iD mo])), (1, some (23, .ds [iD p, iD q]))]) (nx' := 2) (by kernel_rfl) (Y_check x de ga mo p q dr ji 0 (by omega) (by omega) (by omega) (by omega) hd (by omega) (by omega)) ?_
  refine AW.rgs [.no, .b false] [2, 3, 4, 5, 10, 17] [0, 1] (P := (¬ ((0 : Int) ≠ 0))) (l' := [(2, iV dr), (3, iV ji), (4, rV 0 0), (5, rV 1 0), (10, iV 0), (17, bV false)]) (g' := [(0, some (35, .ds [iD x, iD de, iD ga, iD mo])), (1, some (23, .ds [iD p, iD q]))]) (nx' := 2) (by kernel_rfl) (by omega) ?_
  refine AW.cond_f (.tmp (Look.of rfl)) ?_
  refine AW.skip ?_
  have hx1 : (((0 : Int) ≤ (ceV p q)) ∧ ((ceV p q) ≤ p)) := (ce_in (by omega) (by omega))
  have hx2 : (p ≤ ((ceV p q) * q)) := (ce_up (by omega))
  have hx3 : (((0 : Int) ≤ (twV p q (dr + mo))) ∧ ((twV p q (dr + mo)) ≤ 1125899906842624)) := (tw_in (by omega) (by omega) (by omega))
  refine AW.rgs [.no, .no, .no, .no, .call [] (iV (ceV p q)) [] 0 [] none, .no, .no, .no, .no, .w, .call [] (iV (twV p q (dr + mo))) [] 0 [] none, .w, .no, .w, .w, .w, .no, .no] [8, 9] [] (P := (_) ∧ ((-9223372036854775808) ≤ (dr + mo) ∧ (dr + mo) ≤ 9223372036854775807) ∧ (_) ∧ ((-9223372036854775808) ≤ ((ceV p q) + (twV p q (dr + mo))) ∧ ((ceV p q) + (twV p q (dr + mo))) ≤ 9223372036854775807) ∧ ((-9223372036854775808) ≤ (2 * ji) ∧ (2 * ji) ≤ 9223372036854775807) ∧ ((-9223372036854775808) ≤ (((ceV p q) + (twV p q (dr + mo))) + (2 * ji)) ∧ (((ceV p q) + (twV p q (dr + mo))) + (2 * ji)) ≤ 9223372036854775807) ∧ ((-9223372036854775808) ≤ ((((ceV p q) + (twV p q (dr + mo))) + (2 * ji)) + 3) ∧ ((((ceV p q) + (twV p q (dr + mo))) + (2 * ji)) + 3) ≤ 9223372036854775807)) (l' := [(8, iV ((((ceV p q) + (twV p q (dr + mo))) + (2 * ji)) + 3)), (9, iV 0)]) (g' := []) (nx' := 2) (by kernel_rfl) ⟨(Y_ceil p q (by omega) (by omega)), ⟨by omega, by omega⟩, (Y_twice p q (dr + mo) (by omega) (by omega) (by omega)), ⟨by omega, by omega⟩, ⟨by omega, by omega⟩, ⟨by omega, by omega⟩, ⟨by omega, by omega⟩⟩ ?_
  refine AW.ret ?_
  exact EndP.of (.inr rfl) [] (P := (((dmV p q dr ji mo) : Int) = ((((ceV p q) + (twV p q (dr + mo))) + (2 * ji)) + 3)) ∧ ((0 : Int) = 0)) (by kernel_rfl) ⟨(by first | rfl | omega), rfl⟩

set_option maxHeartbeats 4000000 in
set_option maxRecDepth 100000 in
theorem Y_Plan_r (p q dr ji de ga : Int) (hd : dcB p q dr ji = true) (hde : 0 ≤ de ∧ de ≤ 65536) (hga : 1 ≤ ga ∧ ga ≤ 4096) (hr : 4096 < (ceV (65536 * dr) (65536 - dr))) : Fun 11 [.agg [iC p, iC q], iE dr, iE ji, iE de, iE ga] (toG []) 0 (.tup [.agg [iC 0, iC 0, iC 0, iC 0], iE 0, iE 2]) (toG []) 0 := by
  have hdd : 0 ≤ dr ∧ dr ≤ 4096 ∧ 0 ≤ ji ∧ ji ≤ 65536 := (dc_of hd).2
  have hpq : 1 ≤ p ∧ p ≤ 68719476736 ∧ 1 ≤ q ∧ q ≤ 68719476736 := ratOk_of (pos_of (dc_of hd).1).1
  have hpp : q ≤ 64 * p ∧ p ≤ 524288 * q ∧ q ≤ 768000 := (pos_of (dc_of hd).1).2
  refine Fun.mk (n := 88) Try.func11 rfl rfl (Nat.le_of_ble_eq_true rfl) ?_
  intro cx hcx
  refine AW.rgs [.no, .no, .no, .no] [1, 2, 3, 4, 5, 10] [0, 1] (P := True) (l' := [(1, iV dr), (2, iV ji), (3, iV de), (4, iV ga), (5, rV 0 0), (10, rV 1 0)]) (g' := [(0, some (23, .ds [iD p, iD q])), (1, some (35, .ds [iD 0, iD 0, iD 0, iD 0]))]) (nx' := 2) (by kernel_rfl) trivial ?_
  refine AW.seq ?_
  refine AW.rgs [.no, .no, .no, .call [] (bV true) [] 0 [] none, .no, .no, .no, .call [] (bV true) [] 0 [] none, .no, .no, .no, .no, .call [] (bV true) [] 0 [] none, .no, .no] [1, 2, 3, 4, 5, 10, 35] [0, 1] (P := (Fun 17 [.agg [iC p, iC q], iE dr, iE ji] (toG []) 0 (bV true) (toG []) 0) ∧ (_) ∧ (_)) (l' := [(1, iV dr), (2, iV ji), (3, iV de), (4, iV ga), (5, rV 0 0), (10, rV 1 0), (35, bV false)]) (g' := [(0, some (23, .ds [iD p, iD q])), (1, some (35, .ds [iD 0, iD 0, iD 0, iD 0]))]) (nx' := 2) (by kernel_rfl) ⟨(by have h0 := (Y_decl p q dr ji); rw [hd] at h0; exact h0), (Fun.y (Y_within de 0 65536) (y' := bV true) (congrArg (fun b => LV (.bool b)) (decide_eq_true (by omega)))), (Fun.y (Y_within ga 1 4096) (y' := bV true) (congrArg (fun b => LV (.bool b)) (decide_eq_true (by omega))))⟩ ?_
  refine AW.cond_f (.tmp (Look.of rfl)) ?_
  refine AW.skip ?_
  have hx1 : (((0 : Int) ≤ (ceV (65536 * dr) (65536 - dr))) ∧ ((ceV (65536 * dr) (65536 - dr)) ≤ (65536 * dr))) := (ce_in (by omega) (by omega))
  have hx2 : ((65536 * dr) ≤ ((ceV (65536 * dr) (65536 - dr)) * (65536 - dr))) := (ce_up (by omega))
  refine AW.rgs [.no, .w, .no, .w, .call [] (iV (ceV (65536 * dr) (65536 - dr))) [] 0 [] none, .no] [1, 2, 3, 4, 5, 10, 13] [0, 1] (P := ((-9223372036854775808) ≤ (65536 * dr) ∧ (65536 * dr) ≤ 9223372036854775807) ∧ ((-9223372036854775808) ≤ (65536 - dr) ∧ (65536 - dr) ≤ 9223372036854775807) ∧ (_)) (l' := [(1, iV dr), (2, iV ji), (3, iV de), (4, iV ga), (5, rV 0 0), (10, rV 1 0), (13, iV (ceV (65536 * dr) (65536 - dr)))]) (g' := [(0, some (23, .ds [iD p, iD q])), (1, some (35, .ds [iD 0, iD 0, iD 0, iD 0]))]) (nx' := 2) (by kernel_rfl) ⟨⟨by omega, by omega⟩, ⟨by omega, by omega⟩, (Y_ceil (65536 * dr) (65536 - dr) (by omega) (by omega))⟩ ?_
  refine AW.seq ?_
  refine AW.rgs [.no, .b true] [1, 2, 3, 4, 5, 10, 13, 43] [0, 1] (P := (((4096 : Int) < (ceV (65536 * dr) (65536 - dr))))) (l' := [(1, iV dr), (2, iV ji), (3, iV de), (4, iV ga), (5, rV 0 0), (10, rV 1 0), (13, iV (ceV (65536 * dr) (65536 - dr))), (43, bV true)]) (g' := [(0, some (23, .ds [iD p, iD q])), (1, some (35, .ds [iD 0, iD 0, iD 0, iD 0]))]) (nx' := 2) (by kernel_rfl) (by omega) ?_
  refine AW.cond_t (.tmp (Look.of rfl)) ?_
  refine AW.rgs [.no, .no, .no, .no] [10, 11, 12] [1] (P := True) (l' := [(10, rV 1 0), (11, iV 0), (12, iV 2)]) (g' := [(1, some (35, .ds [iD 0, iD 0, iD 0, iD 0]))]) (nx' := 2) (by kernel_rfl) trivial ?_
  refine AW.ret ?_
  exact EndP.of (.inr rfl) [] (P := ((0 : Int) = 0) ∧ ((0 : Int) = 0) ∧ ((0 : Int) = 0) ∧ ((0 : Int) = 0) ∧ ((0 : Int) = 0) ∧ ((2 : Int) = 2)) (by kernel_rfl) ⟨rfl, rfl, rfl, rfl, rfl, rfl⟩

set_option maxHeartbeats 4000000 in
set_option maxRecDepth 100000 in
theorem Y_Plan_s (p q dr ji de ga : Int) (hd : dcB p q dr ji = true) (hde : 0 ≤ de ∧ de ≤ 65536) (hga : 1 ≤ ga ∧ ga ≤ 4096) (hr : (ceV (65536 * dr) (65536 - dr)) ≤ 4096) (hst : 65536 < (twV p q dr + ji + 1)) : Fun 11 [.agg [iC p, iC q], iE dr, iE ji, iE de, iE ga] (toG []) 0 (.tup [.agg [iC 0, iC 0, iC 0, iC 0], iE 0, iE 3]) (toG []) 0 := by
  have hdd : 0 ≤ dr ∧ dr ≤ 4096 ∧ 0 ≤ ji ∧ ji ≤ 65536 := (dc_of hd).2
  have hpq : 1 ≤ p ∧ p ≤ 68719476736 ∧ 1 ≤ q ∧ q ≤ 68719476736 := ratOk_of (pos_of (dc_of hd).1).1
  have hpp : q ≤ 64 * p ∧ p ≤ 524288 * q ∧ q ≤ 768000 := (pos_of (dc_of hd).1).2
  refine Fun.mk (n := 88) Try.func11 rfl rfl (Nat.le_of_ble_eq_true rfl) ?_
  intro cx hcx
  refine AW.rgs [.no, .no, .no, .no] [1, 2, 3, 4, 5, 10] [0, 1] (P := True) (l' := [(1, iV dr), (2, iV ji), (3, iV de), (4, iV ga), (5, rV 0 0), (10, rV 1 0)]) (g' := [(0, some (23, .ds [iD p, iD q])), (1, some (35, .ds [iD 0, iD 0, iD 0, iD 0]))]) (nx' := 2) (by kernel_rfl) trivial ?_
  refine AW.seq ?_
  refine AW.rgs [.no, .no, .no, .call [] (bV true) [] 0 [] none, .no, .no, .no, .call [] (bV true) [] 0 [] none, .no, .no, .no, .no, .call [] (bV true) [] 0 [] none, .no, .no] [1, 2, 3, 4, 5, 10, 35] [0, 1] (P := (Fun 17 [.agg [iC p, iC q], iE dr, iE ji] (toG []) 0 (bV true) (toG []) 0) ∧ (_) ∧ (_)) (l' := [(1, iV dr), (2, iV ji), (3, iV de), (4, iV ga), (5, rV 0 0), (10, rV 1 0), (35, bV false)]) (g' := [(0, some (23, .ds [iD p, iD q])), (1, some (35, .ds [iD 0, iD 0, iD 0, iD 0]))]) (nx' := 2) (by kernel_rfl) ⟨(by have h0 := (Y_decl p q dr ji); rw [hd] at h0; exact h0), (Fun.y (Y_within de 0 65536) (y' := bV true) (congrArg (fun b => LV (.bool b)) (decide_eq_true (by omega)))), (Fun.y (Y_within ga 1 4096) (y' := bV true) (congrArg (fun b => LV (.bool b)) (decide_eq_true (by omega))))⟩ ?_
  refine AW.cond_f (.tmp (Look.of rfl)) ?_
  refine AW.skip ?_
  have hx1 : (((0 : Int) ≤ (ceV (65536 * dr) (65536 - dr))) ∧ ((ceV (65536 * dr) (65536 - dr)) ≤ (65536 * dr))) := (ce_in (by omega) (by omega))
  have hx2 : ((65536 * dr) ≤ ((ceV (65536 * dr) (65536 - dr)) * (65536 - dr))) := (ce_up (by omega))
  refine AW.rgs [.no, .w, .no, .w, .call [] (iV (ceV (65536 * dr) (65536 - dr))) [] 0 [] none, .no] [1, 2, 3, 4, 5, 10, 13] [0, 1] (P := ((-9223372036854775808) ≤ (65536 * dr) ∧ (65536 * dr) ≤ 9223372036854775807) ∧ ((-9223372036854775808) ≤ (65536 - dr) ∧ (65536 - dr) ≤ 9223372036854775807) ∧ (_)) (l' := [(1, iV dr), (2, iV ji), (3, iV de), (4, iV ga), (5, rV 0 0), (10, rV 1 0), (13, iV (ceV (65536 * dr) (65536 - dr)))]) (g' := [(0, some (23, .ds [iD p, iD q])), (1, some (35, .ds [iD 0, iD 0, iD 0, iD 0]))]) (nx' := 2) (by kernel_rfl) ⟨⟨by omega, by omega⟩, ⟨by omega, by omega⟩, (Y_ceil (65536 * dr) (65536 - dr) (by omega) (by omega))⟩ ?_
  refine AW.seq ?_
  refine AW.rgs [.no, .b false] [1, 2, 3, 4, 5, 10, 13, 43] [0, 1] (P := (¬ ((4096 : Int) < (ceV (65536 * dr) (65536 - dr))))) (l' := [(1, iV dr), (2, iV ji), (3, iV de), (4, iV ga), (5, rV 0 0), (10, rV 1 0), (13, iV (ceV (65536 * dr) (65536 - dr))), (43, bV false)]) (g' := [(0, some (23, .ds [iD p, iD q])), (1, some (35, .ds [iD 0, iD 0, iD 0, iD 0]))]) (nx' := 2) (by kernel_rfl) (by omega) ?_
  refine AW.cond_f (.tmp (Look.of rfl)) ?_
  refine AW.skip ?_
  refine AW.rgs [.no, .no, .no, .no, .no, .no] [1, 2, 5, 10, 14] [0, 1, 2] (P := True) (l' := [(1, iV dr), (2, iV ji), (5, rV 0 0), (10, rV 1 0), (14, rV 2 0)]) (g' := [(0, some (23, .ds [iD p, iD q])), (1, some (35, .ds [iD 0, iD 0, iD 0, iD 0])), (2, some (35, .ds [iD 0, iD de, iD ga, iD (ceV (65536 * dr) (65536 - dr))]))]) (nx' := 3) (by kernel_rfl) trivial ?_
  have hx3 : (((0 : Int) ≤ (twV p q dr)) ∧ ((twV p q dr) ≤ 1125899906842624)) := (tw_in (by omega) (by omega) (by omega))
  refine AW.rgs [.no, .no, .call [] (iV (twV p q dr)) [] 0 [] none, .no, .w, .w, .no] [1, 2, 5, 10, 14, 15] [0, 1, 2] (P := (_) ∧ ((-9223372036854775808) ≤ ((twV p q dr) + ji) ∧ ((twV p q dr) + ji) ≤ 9223372036854775807) ∧ ((-9223372036854775808) ≤ (((twV p q dr) + ji) + 1) ∧ (((twV p q dr) + ji) + 1) ≤ 9223372036854775807)) (l' := [(1, iV dr), (2, iV ji), (5, rV 0 0), (10, rV 1 0), (14, rV 2 0), (15, iV (((twV p q dr) + ji) + 1))]) (g' := [(0, some (23, .ds [iD p, iD q])), (1, some (35, .ds [iD 0, iD 0, iD 0, iD 0])), (2, some (35, .ds [iD 0, iD de, iD ga, iD (ceV (65536 * dr) (65536 - dr))]))]) (nx' := 3) (by kernel_rfl) ⟨(Y_twice p q dr (by omega) (by omega) (by omega)), ⟨by omega, by omega⟩, ⟨by omega, by omega⟩⟩ ?_
  refine AW.seq ?_
  refine AW.rgs [.no, .b true] [1, 2, 5, 10, 14, 15, 56] [0, 1, 2] (P := (((65536 : Int) < (((twV p q dr) + ji) + 1)))) (l' := [(1, iV dr), (2, iV ji), (5, rV 0 0), (10, rV 1 0), (14, rV 2 0), (15, iV (((twV p q dr) + ji) + 1)), (56, bV true)]) (g' := [(0, some (23, .ds [iD p, iD q])), (1, some (35, .ds [iD 0, iD 0, iD 0, iD 0])), (2, some (35, .ds [iD 0, iD de, iD ga, iD (ceV (65536 * dr) (65536 - dr))]))]) (nx' := 3) (by kernel_rfl) (by omega) ?_
  refine AW.cond_t (.tmp (Look.of rfl)) ?_
  refine AW.rgs [.no, .no, .no, .no] [10, 11, 12] [1] (P := True) (l' := [(10, rV 1 0), (11, iV 0), (12, iV 3)]) (g' := [(1, some (35, .ds [iD 0, iD 0, iD 0, iD 0]))]) (nx' := 3) (by kernel_rfl) trivial ?_
  refine AW.ret ?_
  exact EndP.of (.inr rfl) [] (P := ((0 : Int) = 0) ∧ ((0 : Int) = 0) ∧ ((0 : Int) = 0) ∧ ((0 : Int) = 0) ∧ ((0 : Int) = 0) ∧ ((3 : Int) = 3)) (by kernel_rfl) ⟨rfl, rfl, rfl, rfl, rfl, rfl⟩

set_option maxHeartbeats 4000000 in
set_option maxRecDepth 100000 in
theorem Y_Plan_l (p q dr ji de ga : Int) (hd : dcB p q dr ji = true) (hde : 0 ≤ de ∧ de ≤ 65536) (hga : 1 ≤ ga ∧ ga ≤ 4096) (hr : (ceV (65536 * dr) (65536 - dr)) ≤ 4096) (hst : (twV p q dr + ji + 1) ≤ 65536) (hcl : 65536 < dmV p q dr ji (ceV (65536 * dr) (65536 - dr)) + boV p q dr ji de (ceV (65536 * dr) (65536 - dr)) ga (twV p q dr + ji + 1) + boV p q dr ji de (ceV (65536 * dr) (65536 - dr)) ga (twV p q dr + ji + 1)) : Fun 11 [.agg [iC p, iC q], iE dr, iE ji, iE de, iE ga] (toG []) 0 (.tup [.agg [iC 0, iC 0, iC 0, iC 0], iE 0, iE 3]) (toG []) 0 := by
  have hdd : 0 ≤ dr ∧ dr ≤ 4096 ∧ 0 ≤ ji ∧ ji ≤ 65536 := (dc_of hd).2
  have hpq : 1 ≤ p ∧ p ≤ 68719476736 ∧ 1 ≤ q ∧ q ≤ 68719476736 := ratOk_of (pos_of (dc_of hd).1).1
  have hpp : q ≤ 64 * p ∧ p ≤ 524288 * q ∧ q ≤ 768000 := (pos_of (dc_of hd).1).2
  refine Fun.mk (n := 88) Try.func11 rfl rfl (Nat.le_of_ble_eq_true rfl) ?_
  intro cx hcx
  refine AW.rgs [.no, .no, .no, .no] [1, 2, 3, 4, 5, 10] [0, 1] (P := True) (l' := [(1, iV dr), (2, iV ji), (3, iV de), (4, iV ga), (5, rV 0 0), (10, rV 1 0)]) (g' := [(0, some (23, .ds [iD p, iD q])), (1, some (35, .ds [iD 0, iD 0, iD 0, iD 0]))]) (nx' := 2) (by kernel_rfl) trivial ?_
  refine AW.seq ?_
  refine AW.rgs [.no, .no, .no, .call [] (bV true) [] 0 [] none, .no, .no, .no, .call [] (bV true) [] 0 [] none, .no, .no, .no, .no, .call [] (bV true) [] 0 [] none, .no, .no] [1, 2, 3, 4, 5, 10, 35] [0, 1] (P := (Fun 17 [.agg [iC p, iC q], iE dr, iE ji] (toG []) 0 (bV true) (toG []) 0) ∧ (_) ∧ (_)) (l' := [(1, iV dr), (2, iV ji), (3, iV de), (4, iV ga), (5, rV 0 0), (10, rV 1 0), (35, bV false)]) (g' := [(0, some (23, .ds [iD p, iD q])), (1, some (35, .ds [iD 0, iD 0, iD 0, iD 0]))]) (nx' := 2) (by kernel_rfl) ⟨(by have h0 := (Y_decl p q dr ji); rw [hd] at h0; exact h0), (Fun.y (Y_within de 0 65536) (y' := bV true) (congrArg (fun b => LV (.bool b)) (decide_eq_true (by omega)))), (Fun.y (Y_within ga 1 4096) (y' := bV true) (congrArg (fun b => LV (.bool b)) (decide_eq_true (by omega))))⟩ ?_
  refine AW.cond_f (.tmp (Look.of rfl)) ?_
  refine AW.skip ?_
  have hx1 : (((0 : Int) ≤ (ceV (65536 * dr) (65536 - dr))) ∧ ((ceV (65536 * dr) (65536 - dr)) ≤ (65536 * dr))) := (ce_in (by omega) (by omega))
  have hx2 : ((65536 * dr) ≤ ((ceV (65536 * dr) (65536 - dr)) * (65536 - dr))) := (ce_up (by omega))
  refine AW.rgs [.no, .w, .no, .w, .call [] (iV (ceV (65536 * dr) (65536 - dr))) [] 0 [] none, .no] [1, 2, 3, 4, 5, 10, 13] [0, 1] (P := ((-9223372036854775808) ≤ (65536 * dr) ∧ (65536 * dr) ≤ 9223372036854775807) ∧ ((-9223372036854775808) ≤ (65536 - dr) ∧ (65536 - dr) ≤ 9223372036854775807) ∧ (_)) (l' := [(1, iV dr), (2, iV ji), (3, iV de), (4, iV ga), (5, rV 0 0), (10, rV 1 0), (13, iV (ceV (65536 * dr) (65536 - dr)))]) (g' := [(0, some (23, .ds [iD p, iD q])), (1, some (35, .ds [iD 0, iD 0, iD 0, iD 0]))]) (nx' := 2) (by kernel_rfl) ⟨⟨by omega, by omega⟩, ⟨by omega, by omega⟩, (Y_ceil (65536 * dr) (65536 - dr) (by omega) (by omega))⟩ ?_
  refine AW.seq ?_
  refine AW.rgs [.no, .b false] [1, 2, 3, 4, 5, 10, 13, 43] [0, 1] (P := (¬ ((4096 : Int) < (ceV (65536 * dr) (65536 - dr))))) (l' := [(1, iV dr), (2, iV ji), (3, iV de), (4, iV ga), (5, rV 0 0), (10, rV 1 0), (13, iV (ceV (65536 * dr) (65536 - dr))), (43, bV false)]) (g' := [(0, some (23, .ds [iD p, iD q])), (1, some (35, .ds [iD 0, iD 0, iD 0, iD 0]))]) (nx' := 2) (by kernel_rfl) (by omega) ?_
  refine AW.cond_f (.tmp (Look.of rfl)) ?_
  refine AW.skip ?_
  refine AW.rgs [.no, .no, .no, .no, .no, .no] [1, 2, 5, 10, 14] [0, 1, 2] (P := True) (l' := [(1, iV dr), (2, iV ji), (5, rV 0 0), (10, rV 1 0), (14, rV 2 0)]) (g' := [(0, some (23, .ds [iD p, iD q])), (1, some (35, .ds [iD 0, iD 0, iD 0, iD 0])), (2, some (35, .ds [iD 0, iD de, iD ga, iD (ceV (65536 * dr) (65536 - dr))]))]) (nx' := 3) (by kernel_rfl) trivial ?_
  have hx3 : (((0 : Int) ≤ (twV p q dr)) ∧ ((twV p q dr) ≤ 1125899906842624)) := (tw_in (by omega) (by omega) (by omega))
  refine AW.rgs [.no, .no, .call [] (iV (twV p q dr)) [] 0 [] none, .no, .w, .w, .no] [1, 2, 5, 10, 14, 15] [0, 1, 2] (P := (_) ∧ ((-9223372036854775808) ≤ ((twV p q dr) + ji) ∧ ((twV p q dr) + ji) ≤ 9223372036854775807) ∧ ((-9223372036854775808) ≤ (((twV p q dr) + ji) + 1) ∧ (((twV p q dr) + ji) + 1) ≤ 9223372036854775807)) (l' := [(1, iV dr), (2, iV ji), (5, rV 0 0), (10, rV 1 0), (14, rV 2 0), (15, iV (((twV p q dr) + ji) + 1))]) (g' := [(0, some (23, .ds [iD p, iD q])), (1, some (35, .ds [iD 0, iD 0, iD 0, iD 0])), (2, some (35, .ds [iD 0, iD de, iD ga, iD (ceV (65536 * dr) (65536 - dr))]))]) (nx' := 3) (by kernel_rfl) ⟨(Y_twice p q dr (by omega) (by omega) (by omega)), ⟨by omega, by omega⟩, ⟨by omega, by omega⟩⟩ ?_
  refine AW.seq ?_
  refine AW.rgs [.no, .b false] [1, 2, 5, 10, 14, 15, 56] [0, 1, 2] (P := (¬ ((65536 : Int) < (((twV p q dr) + ji) + 1)))) (l' := [(1, iV dr), (2, iV ji), (5, rV 0 0), (10, rV 1 0), (14, rV 2 0), (15, iV (((twV p q dr) + ji) + 1)), (56, bV false)]) (g' := [(0, some (23, .ds [iD p, iD q])), (1, some (35, .ds [iD 0, iD 0, iD 0, iD 0])), (2, some (35, .ds [iD 0, iD de, iD ga, iD (ceV (65536 * dr) (65536 - dr))]))]) (nx' := 3) (by kernel_rfl) (by omega) ?_
  refine AW.cond_f (.tmp (Look.of rfl)) ?_
  refine AW.skip ?_
  have hx4 : ((boV p q dr ji de (ceV (65536 * dr) (65536 - dr)) ga (((twV p q dr) + ji) + 1)) = ((((max (((twV p q dr) + ji) + 1) (de + (ceV (ceV (65536 * dr) (65536 - dr)) ga))) + (twV p q (dr + (ceV (65536 * dr) (65536 - dr))))) + (2 * ji)) + 2)) := rfl
  have hx5 : (((0 : Int) ≤ (ceV (ceV (65536 * dr) (65536 - dr)) ga)) ∧ ((ceV (ceV (65536 * dr) (65536 - dr)) ga) ≤ (ceV (65536 * dr) (65536 - dr)))) := (ce_in (by omega) (by omega))
  have hx6 : (((0 : Int) ≤ (twV p q (dr + (ceV (65536 * dr) (65536 - dr))))) ∧ ((twV p q (dr + (ceV (65536 * dr) (65536 - dr)))) ≤ 1125899906842624)) := (tw_in (by omega) (by omega) (by omega))
  refine AW.rgs [.no, .no, .no, .no, .no, .call [] (.tup [iE (boV p q dr ji de (ceV (65536 * dr) (65536 - dr)) ga (((twV p q dr) + ji) + 1)), iE 0]) [] 0 [] none, .no, .no, .no, .no, .no] [1, 2, 5, 10, 14, 16] [0, 1, 2] (P := (_)) (l' := [(1, iV dr), (2, iV ji), (5, rV 0 0), (10, rV 1 0), (14, rV 2 0), (16, iV (boV p q dr ji de (ceV (65536 * dr) (65536 - dr)) ga (((twV p q dr) + ji) + 1)))]) (g' := [(0, some (23, .ds [iD p, iD q])), (1, some (35, .ds [iD 0, iD 0, iD 0, iD 0])), (2, some (35, .ds [iD 0, iD de, iD ga, iD (ceV (65536 * dr) (65536 - dr))]))]) (nx' := 3) (by kernel_rfl) (Y_Bound 0 de ga (ceV (65536 * dr) (65536 - dr)) p q dr ji (((twV p q dr) + ji) + 1) (by omega) (by omega) (by omega) (by first | omega | with_reducible assumption | (simp <;> omega) | rfl | assumption) hd (by first | omega | with_reducible assumption | (simp <;> omega) | rfl | assumption) (by first | omega | with_reducible assumption | (simp <;> omega) | rfl | assumption)) ?_
  have hx7 : ((dmV p q dr ji (ceV (65536 * dr) (65536 - dr))) = ((((ceV p q) + (twV p q (dr + (ceV (65536 * dr) (65536 - dr))))) + (2 * ji)) + 3)) := rfl
  have hx8 : (((0 : Int) ≤ (ceV p q)) ∧ ((ceV p q) ≤ p)) := (ce_in (by omega) (by omega))
  refine AW.rgs [.no, .no, .no, .no, .call [] (.tup [iE (dmV p q dr ji (ceV (65536 * dr) (65536 - dr))), iE 0]) [] 0 [] none, .no, .no, .no, .no, .no] [10, 14, 16, 18] [1, 2] (P := (_)) (l' := [(10, rV 1 0), (14, rV 2 0), (16, iV (boV p q dr ji de (ceV (65536 * dr) (65536 - dr)) ga (((twV p q dr) + ji) + 1))), (18, iV (dmV p q dr ji (ceV (65536 * dr) (65536 - dr))))]) (g' := [(1, some (35, .ds [iD 0, iD 0, iD 0, iD 0])), (2, some (35, .ds [iD 0, iD de, iD ga, iD (ceV (65536 * dr) (65536 - dr))]))]) (nx' := 3) (by kernel_rfl) (Y_Demand 0 de ga (ceV (65536 * dr) (65536 - dr)) p q dr ji (by omega) (by omega) (by omega) (by first | omega | with_reducible assumption | (simp <;> omega) | rfl | assumption) hd (by first | omega | with_reducible assumption | (simp <;> omega) | rfl | assumption)) ?_
  refine AW.rgs [.no, .no, .w, .no, .no] [10, 14, 16] [1, 2] (P := ((-9223372036854775808) ≤ ((dmV p q dr ji (ceV (65536 * dr) (65536 - dr))) + (boV p q dr ji de (ceV (65536 * dr) (65536 - dr)) ga (((twV p q dr) + ji) + 1))) ∧ ((dmV p q dr ji (ceV (65536 * dr) (65536 - dr))) + (boV p q dr ji de (ceV (65536 * dr) (65536 - dr)) ga (((twV p q dr) + ji) + 1))) ≤ 9223372036854775807)) (l' := [(10, rV 1 0), (14, rV 2 0), (16, iV (boV p q dr ji de (ceV (65536 * dr) (65536 - dr)) ga (((twV p q dr) + ji) + 1)))]) (g' := [(1, some (35, .ds [iD 0, iD 0, iD 0, iD 0])), (2, some (35, .ds [iD ((dmV p q dr ji (ceV (65536 * dr) (65536 - dr))) + (boV p q dr ji de (ceV (65536 * dr) (65536 - dr)) ga (((twV p q dr) + ji) + 1))), iD de, iD ga, iD (ceV (65536 * dr) (65536 - dr))]))]) (nx' := 3) (by kernel_rfl) ⟨by omega, by omega⟩ ?_
  refine AW.rgs [.no, .no, .no, .w, .no] [10, 14, 20] [1, 2] (P := ((-9223372036854775808) ≤ (((dmV p q dr ji (ceV (65536 * dr) (65536 - dr))) + (boV p q dr ji de (ceV (65536 * dr) (65536 - dr)) ga (((twV p q dr) + ji) + 1))) + (boV p q dr ji de (ceV (65536 * dr) (65536 - dr)) ga (((twV p q dr) + ji) + 1))) ∧ (((dmV p q dr ji (ceV (65536 * dr) (65536 - dr))) + (boV p q dr ji de (ceV (65536 * dr) (65536 - dr)) ga (((twV p q dr) + ji) + 1))) + (boV p q dr ji de (ceV (65536 * dr) (65536 - dr)) ga (((twV p q dr) + ji) + 1))) ≤ 9223372036854775807)) (l' := [(10, rV 1 0), (14, rV 2 0), (20, iV (((dmV p q dr ji (ceV (65536 * dr) (65536 - dr))) + (boV p q dr ji de (ceV (65536 * dr) (65536 - dr)) ga (((twV p q dr) + ji) + 1))) + (boV p q dr ji de (ceV (65536 * dr) (65536 - dr)) ga (((twV p q dr) + ji) + 1))))]) (g' := [(1, some (35, .ds [iD 0, iD 0, iD 0, iD 0])), (2, some (35, .ds [iD ((dmV p q dr ji (ceV (65536 * dr) (65536 - dr))) + (boV p q dr ji de (ceV (65536 * dr) (65536 - dr)) ga (((twV p q dr) + ji) + 1))), iD de, iD ga, iD (ceV (65536 * dr) (65536 - dr))]))]) (nx' := 3) (by kernel_rfl) ⟨by omega, by omega⟩ ?_
  refine AW.seq ?_
  refine AW.rgs [.no, .b true] [10, 14, 20, 84] [1, 2] (P := (((65536 : Int) < (((dmV p q dr ji (ceV (65536 * dr) (65536 - dr))) + (boV p q dr ji de (ceV (65536 * dr) (65536 - dr)) ga (((twV p q dr) + ji) + 1))) + (boV p q dr ji de (ceV (65536 * dr) (65536 - dr)) ga (((twV p q dr) + ji) + 1)))))) (l' := [(10, rV 1 0), (14, rV 2 0), (20, iV (((dmV p q dr ji (ceV (65536 * dr) (65536 - dr))) + (boV p q dr ji de (ceV (65536 * dr) (65536 - dr)) ga (((twV p q dr) + ji) + 1))) + (boV p q dr ji de (ceV (65536 * dr) (65536 - dr)) ga (((twV p q dr) + ji) + 1)))), (84, bV true)]) (g' := [(1, some (35, .ds [iD 0, iD 0, iD 0, iD 0])), (2, some (35, .ds [iD ((dmV p q dr ji (ceV (65536 * dr) (65536 - dr))) + (boV p q dr ji de (ceV (65536 * dr) (65536 - dr)) ga (((twV p q dr) + ji) + 1))), iD de, iD ga, iD (ceV (65536 * dr) (65536 - dr))]))]) (nx' := 3) (by kernel_rfl) (by omega) ?_
  refine AW.cond_t (.tmp (Look.of rfl)) ?_
  refine AW.rgs [.no, .no, .no, .no] [10, 11, 12] [1] (P := True) (l' := [(10, rV 1 0), (11, iV 0), (12, iV 3)]) (g' := [(1, some (35, .ds [iD 0, iD 0, iD 0, iD 0]))]) (nx' := 3) (by kernel_rfl) trivial ?_
  refine AW.ret ?_
  exact EndP.of (.inr rfl) [] (P := ((0 : Int) = 0) ∧ ((0 : Int) = 0) ∧ ((0 : Int) = 0) ∧ ((0 : Int) = 0) ∧ ((0 : Int) = 0) ∧ ((3 : Int) = 3)) (by kernel_rfl) ⟨rfl, rfl, rfl, rfl, rfl, rfl⟩

set_option maxHeartbeats 4000000 in
set_option maxRecDepth 100000 in
theorem Y_Plan_ok (p q dr ji de ga : Int) (hd : dcB p q dr ji = true) (hde : 0 ≤ de ∧ de ≤ 65536) (hga : 1 ≤ ga ∧ ga ≤ 4096) (hr : (ceV (65536 * dr) (65536 - dr)) ≤ 4096) (hst : (twV p q dr + ji + 1) ≤ 65536) (hcl : dmV p q dr ji (ceV (65536 * dr) (65536 - dr)) + boV p q dr ji de (ceV (65536 * dr) (65536 - dr)) ga (twV p q dr + ji + 1) + boV p q dr ji de (ceV (65536 * dr) (65536 - dr)) ga (twV p q dr + ji + 1) ≤ 65536) : Fun 11 [.agg [iC p, iC q], iE dr, iE ji, iE de, iE ga] (toG []) 0 (.tup [.agg [iC ((dmV p q dr ji (ceV (65536 * dr) (65536 - dr))) + (boV p q dr ji de (ceV (65536 * dr) (65536 - dr)) ga (((twV p q dr) + ji) + 1))), iC de, iC ga, iC (ceV (65536 * dr) (65536 - dr))], iE (((dmV p q dr ji (ceV (65536 * dr) (65536 - dr))) + (boV p q dr ji de (ceV (65536 * dr) (65536 - dr)) ga (((twV p q dr) + ji) + 1))) + (boV p q dr ji de (ceV (65536 * dr) (65536 - dr)) ga (((twV p q dr) + ji) + 1))), iE 0]) (toG []) 0 := by
  have hdd : 0 ≤ dr ∧ dr ≤ 4096 ∧ 0 ≤ ji ∧ ji ≤ 65536 := (dc_of hd).2
  have hpq : 1 ≤ p ∧ p ≤ 68719476736 ∧ 1 ≤ q ∧ q ≤ 68719476736 := ratOk_of (pos_of (dc_of hd).1).1
  have hpp : q ≤ 64 * p ∧ p ≤ 524288 * q ∧ q ≤ 768000 := (pos_of (dc_of hd).1).2
  refine Fun.mk (n := 88) Try.func11 rfl rfl (Nat.le_of_ble_eq_true rfl) ?_
  intro cx hcx
  refine AW.rgs [.no, .no, .no, .no] [1, 2, 3, 4, 5, 10] [0, 1] (P := True) (l' := [(1, iV dr), (2, iV ji), (3, iV de), (4, iV ga), (5, rV 0 0), (10, rV 1 0)]) (g' := [(0, some (23, .ds [iD p, iD q])), (1, some (35, .ds [iD 0, iD 0, iD 0, iD 0]))]) (nx' := 2) (by kernel_rfl) trivial ?_
  refine AW.seq ?_
  refine AW.rgs [.no, .no, .no, .call [] (bV true) [] 0 [] none, .no, .no, .no, .call [] (bV true) [] 0 [] none, .no, .no, .no, .no, .call [] (bV true) [] 0 [] none, .no, .no] [1, 2, 3, 4, 5, 10, 35] [0, 1] (P := (Fun 17 [.agg [iC p, iC q], iE dr, iE ji] (toG []) 0 (bV true) (toG []) 0) ∧ (_) ∧ (_)) (l' := [(1, iV dr), (2, iV ji), (3, iV de), (4, iV ga), (5, rV 0 0), (10, rV 1 0), (35, bV false)]) (g' := [(0, some (23, .ds [iD p, iD q])), (1, some (35, .ds [iD 0, iD 0, iD 0, iD 0]))]) (nx' := 2) (by kernel_rfl) ⟨(by have h0 := (Y_decl p q dr ji); rw [hd] at h0; exact h0), (Fun.y (Y_within de 0 65536) (y' := bV true) (congrArg (fun b => LV (.bool b)) (decide_eq_true (by omega)))), (Fun.y (Y_within ga 1 4096) (y' := bV true) (congrArg (fun b => LV (.bool b)) (decide_eq_true (by omega))))⟩ ?_
  refine AW.cond_f (.tmp (Look.of rfl)) ?_
  refine AW.skip ?_
  have hx1 : (((0 : Int) ≤ (ceV (65536 * dr) (65536 - dr))) ∧ ((ceV (65536 * dr) (65536 - dr)) ≤ (65536 * dr))) := (ce_in (by omega) (by omega))
  have hx2 : ((65536 * dr) ≤ ((ceV (65536 * dr) (65536 - dr)) * (65536 - dr))) := (ce_up (by omega))
  refine AW.rgs [.no, .w, .no, .w, .call [] (iV (ceV (65536 * dr) (65536 - dr))) [] 0 [] none, .no] [1, 2, 3, 4, 5, 10, 13] [0, 1] (P := ((-9223372036854775808) ≤ (65536 * dr) ∧ (65536 * dr) ≤ 9223372036854775807) ∧ ((-9223372036854775808) ≤ (65536 - dr) ∧ (65536 - dr) ≤ 9223372036854775807) ∧ (_)) (l' := [(1, iV dr), (2, iV ji), (3, iV de), (4, iV ga), (5, rV 0 0), (10, rV 1 0), (13, iV (ceV (65536 * dr) (65536 - dr)))]) (g' := [(0, some (23, .ds [iD p, iD q])), (1, some (35, .ds [iD 0, iD 0, iD 0, iD 0]))]) (nx' := 2) (by kernel_rfl) ⟨⟨by omega, by omega⟩, ⟨by omega, by omega⟩, (Y_ceil (65536 * dr) (65536 - dr) (by omega) (by omega))⟩ ?_
  refine AW.seq ?_
  refine AW.rgs [.no, .b false] [1, 2, 3, 4, 5, 10, 13, 43] [0, 1] (P := (¬ ((4096 : Int) < (ceV (65536 * dr) (65536 - dr))))) (l' := [(1, iV dr), (2, iV ji), (3, iV de), (4, iV ga), (5, rV 0 0), (10, rV 1 0), (13, iV (ceV (65536 * dr) (65536 - dr))), (43, bV false)]) (g' := [(0, some (23, .ds [iD p, iD q])), (1, some (35, .ds [iD 0, iD 0, iD 0, iD 0]))]) (nx' := 2) (by kernel_rfl) (by omega) ?_
  refine AW.cond_f (.tmp (Look.of rfl)) ?_
  refine AW.skip ?_
  refine AW.rgs [.no, .no, .no, .no, .no, .no] [1, 2, 5, 10, 14] [0, 1, 2] (P := True) (l' := [(1, iV dr), (2, iV ji), (5, rV 0 0), (10, rV 1 0), (14, rV 2 0)]) (g' := [(0, some (23, .ds [iD p, iD q])), (1, some (35, .ds [iD 0, iD 0, iD 0, iD 0])), (2, some (35, .ds [iD 0, iD de, iD ga, iD (ceV (65536 * dr) (65536 - dr))]))]) (nx' := 3) (by kernel_rfl) trivial ?_
  have hx3 : (((0 : Int) ≤ (twV p q dr)) ∧ ((twV p q dr) ≤ 1125899906842624)) := (tw_in (by omega) (by omega) (by omega))
  refine AW.rgs [.no, .no, .call [] (iV (twV p q dr)) [] 0 [] none, .no, .w, .w, .no] [1, 2, 5, 10, 14, 15] [0, 1, 2] (P := (_) ∧ ((-9223372036854775808) ≤ ((twV p q dr) + ji) ∧ ((twV p q dr) + ji) ≤ 9223372036854775807) ∧ ((-9223372036854775808) ≤ (((twV p q dr) + ji) + 1) ∧ (((twV p q dr) + ji) + 1) ≤ 9223372036854775807)) (l' := [(1, iV dr), (2, iV ji), (5, rV 0 0), (10, rV 1 0), (14, rV 2 0), (15, iV (((twV p q dr) + ji) + 1))]) (g' := [(0, some (23, .ds [iD p, iD q])), (1, some (35, .ds [iD 0, iD 0, iD 0, iD 0])), (2, some (35, .ds [iD 0, iD de, iD ga, iD (ceV (65536 * dr) (65536 - dr))]))]) (nx' := 3) (by kernel_rfl) ⟨(Y_twice p q dr (by omega) (by omega) (by omega)), ⟨by omega, by omega⟩, ⟨by omega, by omega⟩⟩ ?_
  refine AW.seq ?_
  refine AW.rgs [.no, .b false] [1, 2, 5, 10, 14, 15, 56] [0, 1, 2] (P := (¬ ((65536 : Int) < (((twV p q dr) + ji) + 1)))) (l' := [(1, iV dr), (2, iV ji), (5, rV 0 0), (10, rV 1 0), (14, rV 2 0), (15, iV (((twV p q dr) + ji) + 1)), (56, bV false)]) (g' := [(0, some (23, .ds [iD p, iD q])), (1, some (35, .ds [iD 0, iD 0, iD 0, iD 0])), (2, some (35, .ds [iD 0, iD de, iD ga, iD (ceV (65536 * dr) (65536 - dr))]))]) (nx' := 3) (by kernel_rfl) (by omega) ?_
  refine AW.cond_f (.tmp (Look.of rfl)) ?_
  refine AW.skip ?_
  have hx4 : ((boV p q dr ji de (ceV (65536 * dr) (65536 - dr)) ga (((twV p q dr) + ji) + 1)) = ((((max (((twV p q dr) + ji) + 1) (de + (ceV (ceV (65536 * dr) (65536 - dr)) ga))) + (twV p q (dr + (ceV (65536 * dr) (65536 - dr))))) + (2 * ji)) + 2)) := rfl
  have hx5 : (((0 : Int) ≤ (ceV (ceV (65536 * dr) (65536 - dr)) ga)) ∧ ((ceV (ceV (65536 * dr) (65536 - dr)) ga) ≤ (ceV (65536 * dr) (65536 - dr)))) := (ce_in (by omega) (by omega))
  have hx6 : (((0 : Int) ≤ (twV p q (dr + (ceV (65536 * dr) (65536 - dr))))) ∧ ((twV p q (dr + (ceV (65536 * dr) (65536 - dr)))) ≤ 1125899906842624)) := (tw_in (by omega) (by omega) (by omega))
  refine AW.rgs [.no, .no, .no, .no, .no, .call [] (.tup [iE (boV p q dr ji de (ceV (65536 * dr) (65536 - dr)) ga (((twV p q dr) + ji) + 1)), iE 0]) [] 0 [] none, .no, .no, .no, .no, .no] [1, 2, 5, 10, 14, 16] [0, 1, 2] (P := (_)) (l' := [(1, iV dr), (2, iV ji), (5, rV 0 0), (10, rV 1 0), (14, rV 2 0), (16, iV (boV p q dr ji de (ceV (65536 * dr) (65536 - dr)) ga (((twV p q dr) + ji) + 1)))]) (g' := [(0, some (23, .ds [iD p, iD q])), (1, some (35, .ds [iD 0, iD 0, iD 0, iD 0])), (2, some (35, .ds [iD 0, iD de, iD ga, iD (ceV (65536 * dr) (65536 - dr))]))]) (nx' := 3) (by kernel_rfl) (Y_Bound 0 de ga (ceV (65536 * dr) (65536 - dr)) p q dr ji (((twV p q dr) + ji) + 1) (by omega) (by omega) (by omega) (by first | omega | with_reducible assumption | (simp <;> omega) | rfl | assumption) hd (by first | omega | with_reducible assumption | (simp <;> omega) | rfl | assumption) (by first | omega | with_reducible assumption | (simp <;> omega) | rfl | assumption)) ?_
  have hx7 : ((dmV p q dr ji (ceV (65536 * dr) (65536 - dr))) = ((((ceV p q) + (twV p q (dr + (ceV (65536 * dr) (65536 - dr))))) + (2 * ji)) + 3)) := rfl
  have hx8 : (((0 : Int) ≤ (ceV p q)) ∧ ((ceV p q) ≤ p)) := (ce_in (by omega) (by omega))
  refine AW.rgs [.no, .no, .no, .no, .call [] (.tup [iE (dmV p q dr ji (ceV (65536 * dr) (65536 - dr))), iE 0]) [] 0 [] none, .no, .no, .no, .no, .no] [10, 14, 16, 18] [1, 2] (P := (_)) (l' := [(10, rV 1 0), (14, rV 2 0), (16, iV (boV p q dr ji de (ceV (65536 * dr) (65536 - dr)) ga (((twV p q dr) + ji) + 1))), (18, iV (dmV p q dr ji (ceV (65536 * dr) (65536 - dr))))]) (g' := [(1, some (35, .ds [iD 0, iD 0, iD 0, iD 0])), (2, some (35, .ds [iD 0, iD de, iD ga, iD (ceV (65536 * dr) (65536 - dr))]))]) (nx' := 3) (by kernel_rfl) (Y_Demand 0 de ga (ceV (65536 * dr) (65536 - dr)) p q dr ji (by omega) (by omega) (by omega) (by first | omega | with_reducible assumption | (simp <;> omega) | rfl | assumption) hd (by first | omega | with_reducible assumption | (simp <;> omega) | rfl | assumption)) ?_
  refine AW.rgs [.no, .no, .w, .no, .no] [10, 14, 16] [1, 2] (P := ((-9223372036854775808) ≤ ((dmV p q dr ji (ceV (65536 * dr) (65536 - dr))) + (boV p q dr ji de (ceV (65536 * dr) (65536 - dr)) ga (((twV p q dr) + ji) + 1))) ∧ ((dmV p q dr ji (ceV (65536 * dr) (65536 - dr))) + (boV p q dr ji de (ceV (65536 * dr) (65536 - dr)) ga (((twV p q dr) + ji) + 1))) ≤ 9223372036854775807)) (l' := [(10, rV 1 0), (14, rV 2 0), (16, iV (boV p q dr ji de (ceV (65536 * dr) (65536 - dr)) ga (((twV p q dr) + ji) + 1)))]) (g' := [(1, some (35, .ds [iD 0, iD 0, iD 0, iD 0])), (2, some (35, .ds [iD ((dmV p q dr ji (ceV (65536 * dr) (65536 - dr))) + (boV p q dr ji de (ceV (65536 * dr) (65536 - dr)) ga (((twV p q dr) + ji) + 1))), iD de, iD ga, iD (ceV (65536 * dr) (65536 - dr))]))]) (nx' := 3) (by kernel_rfl) ⟨by omega, by omega⟩ ?_
  refine AW.rgs [.no, .no, .no, .w, .no] [10, 14, 20] [1, 2] (P := ((-9223372036854775808) ≤ (((dmV p q dr ji (ceV (65536 * dr) (65536 - dr))) + (boV p q dr ji de (ceV (65536 * dr) (65536 - dr)) ga (((twV p q dr) + ji) + 1))) + (boV p q dr ji de (ceV (65536 * dr) (65536 - dr)) ga (((twV p q dr) + ji) + 1))) ∧ (((dmV p q dr ji (ceV (65536 * dr) (65536 - dr))) + (boV p q dr ji de (ceV (65536 * dr) (65536 - dr)) ga (((twV p q dr) + ji) + 1))) + (boV p q dr ji de (ceV (65536 * dr) (65536 - dr)) ga (((twV p q dr) + ji) + 1))) ≤ 9223372036854775807)) (l' := [(10, rV 1 0), (14, rV 2 0), (20, iV (((dmV p q dr ji (ceV (65536 * dr) (65536 - dr))) + (boV p q dr ji de (ceV (65536 * dr) (65536 - dr)) ga (((twV p q dr) + ji) + 1))) + (boV p q dr ji de (ceV (65536 * dr) (65536 - dr)) ga (((twV p q dr) + ji) + 1))))]) (g' := [(1, some (35, .ds [iD 0, iD 0, iD 0, iD 0])), (2, some (35, .ds [iD ((dmV p q dr ji (ceV (65536 * dr) (65536 - dr))) + (boV p q dr ji de (ceV (65536 * dr) (65536 - dr)) ga (((twV p q dr) + ji) + 1))), iD de, iD ga, iD (ceV (65536 * dr) (65536 - dr))]))]) (nx' := 3) (by kernel_rfl) ⟨by omega, by omega⟩ ?_
  refine AW.seq ?_
  refine AW.rgs [.no, .b false] [10, 14, 20, 84] [1, 2] (P := (¬ ((65536 : Int) < (((dmV p q dr ji (ceV (65536 * dr) (65536 - dr))) + (boV p q dr ji de (ceV (65536 * dr) (65536 - dr)) ga (((twV p q dr) + ji) + 1))) + (boV p q dr ji de (ceV (65536 * dr) (65536 - dr)) ga (((twV p q dr) + ji) + 1)))))) (l' := [(10, rV 1 0), (14, rV 2 0), (20, iV (((dmV p q dr ji (ceV (65536 * dr) (65536 - dr))) + (boV p q dr ji de (ceV (65536 * dr) (65536 - dr)) ga (((twV p q dr) + ji) + 1))) + (boV p q dr ji de (ceV (65536 * dr) (65536 - dr)) ga (((twV p q dr) + ji) + 1)))), (84, bV false)]) (g' := [(1, some (35, .ds [iD 0, iD 0, iD 0, iD 0])), (2, some (35, .ds [iD ((dmV p q dr ji (ceV (65536 * dr) (65536 - dr))) + (boV p q dr ji de (ceV (65536 * dr) (65536 - dr)) ga (((twV p q dr) + ji) + 1))), iD de, iD ga, iD (ceV (65536 * dr) (65536 - dr))]))]) (nx' := 3) (by kernel_rfl) (by omega) ?_
  refine AW.cond_f (.tmp (Look.of rfl)) ?_
  refine AW.skip ?_
  refine AW.rgs [.no, .no, .no, .no, .no] [10, 11, 12] [1] (P := True) (l' := [(10, rV 1 0), (11, iV (((dmV p q dr ji (ceV (65536 * dr) (65536 - dr))) + (boV p q dr ji de (ceV (65536 * dr) (65536 - dr)) ga (((twV p q dr) + ji) + 1))) + (boV p q dr ji de (ceV (65536 * dr) (65536 - dr)) ga (((twV p q dr) + ji) + 1)))), (12, iV 0)]) (g' := [(1, some (35, .ds [iD ((dmV p q dr ji (ceV (65536 * dr) (65536 - dr))) + (boV p q dr ji de (ceV (65536 * dr) (65536 - dr)) ga (((twV p q dr) + ji) + 1))), iD de, iD ga, iD (ceV (65536 * dr) (65536 - dr))]))]) (nx' := 3) (by kernel_rfl) trivial ?_
  refine AW.ret ?_
  exact EndP.of (.inr rfl) [] (P := ((((dmV p q dr ji (ceV (65536 * dr) (65536 - dr))) + (boV p q dr ji de (ceV (65536 * dr) (65536 - dr)) ga (((twV p q dr) + ji) + 1))) : Int) = ((dmV p q dr ji (ceV (65536 * dr) (65536 - dr))) + (boV p q dr ji de (ceV (65536 * dr) (65536 - dr)) ga (((twV p q dr) + ji) + 1)))) ∧ ((de : Int) = de) ∧ ((ga : Int) = ga) ∧ (((ceV (65536 * dr) (65536 - dr)) : Int) = (ceV (65536 * dr) (65536 - dr))) ∧ (((((dmV p q dr ji (ceV (65536 * dr) (65536 - dr))) + (boV p q dr ji de (ceV (65536 * dr) (65536 - dr)) ga (((twV p q dr) + ji) + 1))) + (boV p q dr ji de (ceV (65536 * dr) (65536 - dr)) ga (((twV p q dr) + ji) + 1))) : Int) = (((dmV p q dr ji (ceV (65536 * dr) (65536 - dr))) + (boV p q dr ji de (ceV (65536 * dr) (65536 - dr)) ga (((twV p q dr) + ji) + 1))) + (boV p q dr ji de (ceV (65536 * dr) (65536 - dr)) ga (((twV p q dr) + ji) + 1)))) ∧ ((0 : Int) = 0)) (by kernel_rfl) ⟨rfl, rfl, rfl, rfl, rfl, rfl⟩

end Go.Proofs.Ytfcdndlnjdelmaa
