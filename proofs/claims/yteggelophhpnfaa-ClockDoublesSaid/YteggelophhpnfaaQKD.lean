/- A law of clocks. No statement is proved here. -/
import Derived.Test.YteggelophhpnfaaL13L
namespace Go.Proofs.Yteggelophhpnfaa
open Go.ChangeShapes Go.WideShapes Go.ChangeAt Go.RowKit
set_option linter.unusedVariables false
set_option linter.unusedSimpArgs false


theorem pos_one {r s t : Int} (h : rtB r s = true) (ht : 0 ≤ t ∧ t ≤ 1099511627776) : posV [0, r, s] 1 t = t * r / s := by
  have hc : ckB [0, r, s] 1 = true := ck_one.trans h
  have h1 := pos_at hc ht (j := 0) (by omega) (show (0 : Int) ≤ t from ht.1) (fun hh => by omega)
  rw [h1]
  show 0 + (t - 0) * r / s = _
  rw [Int.sub_zero, Int.zero_add]
theorem ck_two {r s a r2 s2 : Int} (h : rtB r s = true) (h2 : rtB r2 s2 = true) (ha : 0 < a ∧ a ≤ 1099511627776) : ckB [0, r, s, a, r2, s2] 2 = true :=
  ck_snoc (l := [0, r, s]) (n := 1) rfl (ck_one.trans h) (at_t ⟨ha.1, ha.2⟩) h2 (by omega)
theorem pos_two {r s a r2 s2 t : Int} (h : rtB r s = true) (h2 : rtB r2 s2 = true) (ha : 0 < a ∧ a ≤ t) (ht : t ≤ 1099511627776) : posV [0, r, s, a, r2, s2] 2 t = a * r / s + (t - a) * r2 / s2 := by
  have hc := ck_two h h2 (a := a) (by omega)
  have h1 := pos_at hc (by omega) (j := 1) (by omega) (show a ≤ t from ha.2) (fun hh => by omega)
  have h3 := ps_up hc (j := 0) (by omega)
  have e : psV [0, r, s, a, r2, s2] 2 1099511627776 (0 + 1) = a * r / s := by
    rw [h3]
    have e2 : toV [0, r, s, a, r2, s2] 2 1099511627776 0 = a := by
      unfold toV; rw [if_pos (by omega)]; show min 1099511627776 a = a; omega
    rw [e2]
    show 0 + (a - 0) * r / s = _
    rw [Int.sub_zero, Int.zero_add]
  rw [h1]
  exact congrArg (fun z => z + (t - a) * r2 / s2) e
theorem po_in {r s t : Int} (h : rtB r s = true) (ht : 0 ≤ t ∧ t ≤ 1099511627776) : 0 ≤ t * r / s ∧ t * r / s ≤ 1125899906842624 := by
  obtain ⟨h1, h2⟩ := rt_of h
  have h3 := ratOk_of h1
  have h4 := fr_in ht.1 h3.1 h3.2.2.1 (by omega)
  omega
theorem add_floor {u v x r s : Int} (hs : 1 ≤ s) (h : u + v = x) : x * r / s = u * r / s + v * r / s ∨ x * r / s = u * r / s + v * r / s + 1 := by
  subst h
  rw [Int.add_mul]
  have h1 := Int.mul_ediv_add_emod (u * r) s
  have h2 := Int.mul_ediv_add_emod (v * r) s
  have h3 := Int.mul_ediv_add_emod (u * r + v * r) s
  have a1 := Int.emod_nonneg (u * r) (show s ≠ 0 by omega)
  have a2 := Int.emod_nonneg (v * r) (show s ≠ 0 by omega)
  have b1 := Int.emod_lt_of_pos (u * r) (show 0 < s by omega)
  have b2 := Int.emod_lt_of_pos (v * r) (show 0 < s by omega)
  by_cases hc : u * r % s + v * r % s < s
  · left
    have q := (Int.ediv_emod_unique (a := u * r + v * r) (b := s) (r := u * r % s + v * r % s) (q := u * r / s + v * r / s) (by omega)).2 ⟨by rw [Int.mul_add]; omega, by omega, by omega⟩
    exact q.1
  · right
    have q := (Int.ediv_emod_unique (a := u * r + v * r) (b := s) (r := u * r % s + v * r % s - s) (q := u * r / s + v * r / s + 1) (by omega)).2 ⟨by rw [Int.mul_add, Int.mul_add, Int.mul_one]; omega, by omega, by omega⟩
    exact q.1

theorem L_ch (r s a r2 s2 : Int) (hr : rtB r s = true) (h2 : rtB r2 s2 = true) (ha : 0 < a ∧ a ≤ 1099511627776) : Fun 15 [.agg [.d (D.sl [iD 0, iD r, iD s] 1)], iE a, .agg [iC r2, iC s2]] (toG []) 0 (.tup [.agg [.d (D.sl [iD 0, iD r, iD s, iD a, iD r2, iD s2] 2)], iE 0]) (toG []) 0 := by
  exact N_Chp_5 [0, r, s] 1 a r2 s2 rfl (by omega) (ck_one.trans hr) (at_t ⟨ha.1, ha.2⟩) h2 (by omega)

theorem L_po2 (r s a r2 s2 t : Int) (hr : rtB r s = true) (h2 : rtB r2 s2 = true) (ha : 0 < a ∧ a ≤ t) (ht : t ≤ 1099511627776) : Fun 19 [.agg [.d (D.sl [iD 0, iD r, iD s, iD a, iD r2, iD s2] 2)], iE t] (toG []) 0 (.tup [iE (((a * r) / s) + (((t - a) * r2) / s2)), iE 0]) (toG []) 0 := by
  have h := Q_Pop3 [0, r, s, a, r2, s2] 2 t rfl (by omega) (ck_two hr h2 (by omega)) (by omega)
  rw [pos_two hr h2 ha ht] at h
  exact h

theorem L_po2e (r s a r2 s2 : Int) (hr : rtB r s = true) (h2 : rtB r2 s2 = true) (ha : 0 < a ∧ a ≤ 1099511627776) : Fun 19 [.agg [.d (D.sl [iD 0, iD r, iD s, iD a, iD r2, iD s2] 2)], iE a] (toG []) 0 (.tup [iE ((a * r) / s), iE 0]) (toG []) 0 := by
  have h := L_po2 r s a r2 s2 a hr h2 (by omega) (by omega)
  rw [Int.sub_self, Int.zero_mul, Int.zero_ediv, Int.add_zero] at h
  exact h

theorem L_po1 (r s t : Int) (hr : rtB r s = true) (ht : 0 ≤ t ∧ t ≤ 1099511627776) : Fun 19 [.agg [.d (D.sl [iD 0, iD r, iD s] 1)], iE t] (toG []) 0 (.tup [iE ((t * r) / s), iE 0]) (toG []) 0 := by
  have h := Q_Pop3 [0, r, s] 1 t rfl (by omega) (ck_one.trans hr) ht
  rw [pos_one hr ht] at h
  exact h


def bsN (x y : Nat) : Nat := x / Nat.gcd x y
theorem bs_in {x y : Nat} (hx : 1 ≤ x ∧ x ≤ 600) (hy : 1 ≤ y ∧ y ≤ 600) : (1 ≤ bsN x y ∧ bsN x y ≤ 600) ∧ (1 ≤ y / Nat.gcd x y ∧ y / Nat.gcd x y ≤ 600) ∧ 1 ≤ Nat.gcd x y := by
  have hg : 0 < Nat.gcd x y := Nat.gcd_pos_of_pos_left _ (by omega)
  have h1 : 0 < x / Nat.gcd x y := Nat.div_pos (Nat.le_of_dvd (by omega) (Nat.gcd_dvd_left x y)) hg
  have h2 : 0 < y / Nat.gcd x y := Nat.div_pos (Nat.le_of_dvd (by omega) (Nat.gcd_dvd_right x y)) hg
  have h3 := Nat.div_le_self x (Nat.gcd x y)
  have h4 := Nat.div_le_self y (Nat.gcd x y)
  unfold bsN
  omega
theorem mk_ok {x y : Nat} (hx : 1 ≤ x ∧ x ≤ 600) (hy : 1 ≤ y ∧ y ≤ 600) : rtB ((bsN x y : Nat) : Int) ((y / Nat.gcd x y : Nat) : Int) = true := by
  have h := bs_in hx hy
  refine rt_t (ratOk_t (by omega) (by omega) ?_) (by omega)
  rw [Int.toNat_natCast, Int.toNat_natCast]
  exact Nat.gcd_div_gcd_div_gcd_of_pos_left (by omega)
theorem fr_red {b d g x y t : Int} (hb : b * g = x) (hd : d * g = y) (hg : 1 ≤ g) : t * b / d = t * x / y := by
  subst hb; subst hd
  rw [← Int.mul_assoc, Int.mul_ediv_mul_of_pos_left _ _ (by omega)]
theorem dbl {x y t p q : Int} (hy : 1 ≤ y) (hp : p = t * x / y) (hq : q = t * (2 * x) / y) : q = 2 * p ∨ q = 2 * p + 1 := by
  have h := add_floor (u := t) (v := t) (x := t + t) (r := x) (s := y) hy rfl
  have e : (t + t) * x = t * (2 * x) := by rw [← Int.mul_assoc, Int.mul_comm t 2, Int.two_mul]
  rw [e] at h
  omega

set_option maxHeartbeats 4000000 in
set_option maxRecDepth 100000 in
theorem B_Make (x0 y0 : Nat) (hx : 1 ≤ x0 ∧ x0 ≤ 600) (hy : 1 ≤ y0 ∧ y0 ≤ 600) : Fun 29 [iE ((x0 : Nat) : Int), iE ((y0 : Nat) : Int)] (toG []) 0 (.tup [.agg [iC (((bsN x0 y0) : Nat) : Int), iC (((y0 / (Nat.gcd x0 y0)) : Nat) : Int)], iE 0]) (toG []) 0 := by
  have hbs := bs_in hx hy
  have hg1 : 1 ≤ Nat.gcd x0 y0 := hbs.2.2
  have hq1 : ((x0 : Nat) : Int) / ((Nat.gcd x0 y0 : Nat) : Int) = ((bsN x0 y0 : Nat) : Int) := rfl
  have hq2 : ((y0 : Nat) : Int) / ((Nat.gcd x0 y0 : Nat) : Int) = ((y0 / Nat.gcd x0 y0 : Nat) : Int) := rfl
  have hb1 : 1 ≤ bsN x0 y0 ∧ bsN x0 y0 ≤ 600 := hbs.1
  have hb2 : 1 ≤ y0 / Nat.gcd x0 y0 ∧ y0 / Nat.gcd x0 y0 ≤ 600 := hbs.2.1
  refine Fun.mk (n := 35) Try.func29 rfl rfl (Nat.le_of_ble_eq_true rfl) ?_
  intro cx hcx
  refine AW.rgs [.no, .no] [0, 1, 4] [0] (P := True) (l' := [(0, iV ↑x0), (1, iV ↑y0), (4, rV 0 0)]) (g' := [(0, some (27, .ds [iD 0, iD 0]))]) (nx' := 1) (by kernel_rfl) trivial ?_
  refine AW.seq ?_
  refine AW.rgs [.no, .b false, .no, .no, .b false, .no] [0, 1, 4, 13] [0] (P := (¬ (((x0 : Nat) : Int) < 1)) ∧ (¬ (((y0 : Nat) : Int) < 1))) (l' := [(0, iV ↑x0), (1, iV ↑y0), (4, rV 0 0), (13, bV false)]) (g' := [(0, some (27, .ds [iD 0, iD 0]))]) (nx' := 1) (by kernel_rfl) ⟨(by omega), (by omega)⟩ ?_
  refine AW.cond_f (.tmp (Look.of rfl)) ?_
  refine AW.skip ?_
  have hx1 : ((x0 = 0) ∨ ((1 : Nat) ≤ (Nat.gcd x0 y0))) := ((Nat.eq_zero_or_pos x0).imp id (fun h9 => Nat.gcd_pos_of_pos_left _ h9))
  refine AW.rgs [.no, .no, .call [] (iV (((Nat.gcd x0 y0) : Nat) : Int)) [] 0 [] none, .no] [0, 1, 4, 6] [0] (P := (_)) (l' := [(0, iV ↑x0), (1, iV ↑y0), (4, rV 0 0), (6, iV (((Nat.gcd x0 y0) : Nat) : Int))]) (g' := [(0, some (27, .ds [iD 0, iD 0]))]) (nx' := 1) (by kernel_rfl) (R_gcd_r x0 y0 (by omega) (by omega)) ?_
  refine AW.rgs [.no, .no, .wi (((bsN x0 y0) : Nat) : Int), .no, .no, .wi (((y0 / (Nat.gcd x0 y0)) : Nat) : Int), .no, .no, .no] [4, 7] [0, 1] (P := (¬ ((((Nat.gcd x0 y0) : Nat) : Int) : Int) = 0) ∧ ((-9223372036854775808) ≤ (Int.tdiv ((x0 : Nat) : Int) (((Nat.gcd x0 y0) : Nat) : Int)) ∧ (Int.tdiv ((x0 : Nat) : Int) (((Nat.gcd x0 y0) : Nat) : Int)) ≤ 9223372036854775807) ∧ (((Int.tdiv ((x0 : Nat) : Int) (((Nat.gcd x0 y0) : Nat) : Int)) : Int) = (((bsN x0 y0) : Nat) : Int)) ∧ (¬ ((((Nat.gcd x0 y0) : Nat) : Int) : Int) = 0) ∧ ((-9223372036854775808) ≤ (Int.tdiv ((y0 : Nat) : Int) (((Nat.gcd x0 y0) : Nat) : Int)) ∧ (Int.tdiv ((y0 : Nat) : Int) (((Nat.gcd x0 y0) : Nat) : Int)) ≤ 9223372036854775807) ∧ (((Int.tdiv ((y0 : Nat) : Int) (((Nat.gcd x0 y0) : Nat) : Int)) : Int) = (((y0 / (Nat.gcd x0 y0)) : Nat) : Int))) (l' := [(4, rV 0 0), (7, rV 1 0)]) (g' := [(0, some (27, .ds [iD 0, iD 0])), (1, some (27, .ds [iD (((bsN x0 y0) : Nat) : Int), iD (((y0 / (Nat.gcd x0 y0)) : Nat) : Int)]))]) (nx' := 2) (by kernel_rfl) ⟨(by omega), ⟨by rw [Int.tdiv_eq_ediv_of_nonneg (by omega)]; omega, by rw [Int.tdiv_eq_ediv_of_nonneg (by omega)]; omega⟩, (by rw [Int.tdiv_eq_ediv_of_nonneg (by omega)]; omega), (by omega), ⟨by rw [Int.tdiv_eq_ediv_of_nonneg (by omega)]; omega, by rw [Int.tdiv_eq_ediv_of_nonneg (by omega)]; omega⟩, (by rw [Int.tdiv_eq_ediv_of_nonneg (by omega)]; omega)⟩ ?_
  refine AW.seq ?_
  refine AW.rgs [.no, .no, .b false, .no, .no, .no, .b false, .no] [4, 7, 32] [0, 1] (P := (¬ ((68719476736 : Int) < (((bsN x0 y0) : Nat) : Int))) ∧ (¬ ((68719476736 : Int) < (((y0 / (Nat.gcd x0 y0)) : Nat) : Int)))) (l' := [(4, rV 0 0), (7, rV 1 0), (32, bV false)]) (g' := [(0, some (27, .ds [iD 0, iD 0])), (1, some (27, .ds [iD (((bsN x0 y0) : Nat) : Int), iD (((y0 / (Nat.gcd x0 y0)) : Nat) : Int)]))]) (nx' := 2) (by kernel_rfl) ⟨(by omega), (by omega)⟩ ?_
  refine AW.cond_f (.tmp (Look.of rfl)) ?_
  refine AW.skip ?_
  refine AW.rgs [.no, .no, .no] [4, 5] [0] (P := True) (l' := [(4, rV 0 0), (5, iV 0)]) (g' := [(0, some (27, .ds [iD (((bsN x0 y0) : Nat) : Int), iD (((y0 / (Nat.gcd x0 y0)) : Nat) : Int)]))]) (nx' := 2) (by kernel_rfl) trivial ?_
  refine AW.ret ?_
  exact EndP.of (.inr rfl) [] (P := (((((bsN x0 y0) : Nat) : Int) : Int) = (((bsN x0 y0) : Nat) : Int)) ∧ (((((y0 / (Nat.gcd x0 y0)) : Nat) : Int) : Int) = (((y0 / (Nat.gcd x0 y0)) : Nat) : Int)) ∧ ((0 : Int) = 0)) (by kernel_rfl) ⟨rfl, rfl, rfl⟩

theorem X_Mk (x y : Int) (hx : 1 ≤ x ∧ x ≤ 600) (hy : 1 ≤ y ∧ y ≤ 600) : ∃ (bn bd bg : Int), (rtB bn bd = true) ∧ (bn * bg = x) ∧ (bd * bg = y) ∧ (1 ≤ bg) ∧ (Fun 29 [iE x, iE y] (toG []) 0 (.tup [.agg [iC bn, iC bd], iE 0]) (toG []) 0) := by
  obtain ⟨x0, rfl⟩ := Int.eq_ofNat_of_zero_le (show 0 ≤ x by omega)
  obtain ⟨y0, rfl⟩ := Int.eq_ofNat_of_zero_le (show 0 ≤ y by omega)
  have h1 := bs_in (x := x0) (y := y0) (by omega) (by omega)
  refine ⟨((bsN x0 y0 : Nat) : Int), ((y0 / Nat.gcd x0 y0 : Nat) : Int), ((Nat.gcd x0 y0 : Nat) : Int), mk_ok (by omega) (by omega), ?_, ?_, by omega, B_Make x0 y0 (by omega) (by omega)⟩
  · rw [← Int.natCast_mul]; congr 1; exact Nat.div_mul_cancel (Nat.gcd_dvd_left x0 y0)
  · rw [← Int.natCast_mul]; congr 1; exact Nat.div_mul_cancel (Nat.gcd_dvd_right x0 y0)

set_option maxHeartbeats 4000000 in
set_option maxRecDepth 100000 in
theorem L_Dbl (x y t : Int) (hx : 0 ≤ x ∧ x ≤ 255) (hy : 0 ≤ y ∧ y ≤ 255) (ht : 0 ≤ t ∧ t ≤ 4294967295) : Fun 8 [.c (.d (D.lit (.int .u8 x))), .c (.d (D.lit (.int .u8 y))), .c (.d (D.lit (.int .u32 t)))] (toG []) 0 (bV true) (toG []) 0 := by
  refine Fun.mk (n := 93) Try.func8 rfl rfl (Nat.le_of_ble_eq_true rfl) ?_
  intro cx hcx
  refine AW.rgs [.no] [0, 1, 2] [] (P := True) (l' := [(0, .e (.c (.d (D.lit (.int .u8 x))))), (1, .e (.c (.d (D.lit (.int .u8 y))))), (2, .e (.c (.d (D.lit (.int .u32 t)))))]) (g' := []) (nx' := 0) (by kernel_rfl) trivial ?_
  refine AW.seq ?_
  rcases Bool.eq_false_or_eq_true (true) with hx1 | hx1
  · refine AW.rgs [.call [] (bV true) [] 0 [] none, .no] [0, 1, 2, 20] [] (P := (Fun 9 [] (toG []) 0 (bV true) (toG []) 0)) (l' := [(0, .e (.c (.d (D.lit (.int .u8 x))))), (1, .e (.c (.d (D.lit (.int .u8 y))))), (2, .e (.c (.d (D.lit (.int .u32 t))))), (20, bV false)]) (g' := []) (nx' := 0) (by kernel_rfl) (by have h0 := (L_sane); rw [hx1] at h0; exact h0) ?_
    refine AW.cond_f (.tmp (Look.of rfl)) ?_
    refine AW.skip ?_
    obtain ⟨bn1, bd2, bg3, hx2, hx3, hx4, hx5, hF3⟩ := (X_Mk (1 + x) (1 + y) (by omega) (by omega))
    refine AW.rgs [.no, .w, .w, .no, .w, .w, .call [] (.tup [.agg [iC bn1, iC bd2], iE 0]) [] 0 [] none, .no, .no, .no, .no, .no, .no] [0, 1, 2, 7] [0] (P := ((-9223372036854775808) ≤ x ∧ x ≤ 9223372036854775807) ∧ ((-9223372036854775808) ≤ (1 + x) ∧ (1 + x) ≤ 9223372036854775807) ∧ ((-9223372036854775808) ≤ y ∧ y ≤ 9223372036854775807) ∧ ((-9223372036854775808) ≤ (1 + y) ∧ (1 + y) ≤ 9223372036854775807) ∧ (_)) (l' := [(0, .e (.c (.d (D.lit (.int .u8 x))))), (1, .e (.c (.d (D.lit (.int .u8 y))))), (2, .e (.c (.d (D.lit (.int .u32 t))))), (7, rV 0 0)]) (g' := [(0, some (27, .ds [iD bn1, iD bd2]))]) (nx' := 1) (by kernel_rfl) ⟨⟨by omega, by omega⟩, ⟨by omega, by omega⟩, ⟨by omega, by omega⟩, ⟨by omega, by omega⟩, hF3⟩ ?_
    obtain ⟨bn4, bd5, bg6, hx6, hx7, hx8, hx9, hF6⟩ := (X_Mk (2 + (2 * x)) (1 + y) (by omega) (by omega))
    refine AW.rgs [.no, .w, .w, .w, .no, .w, .w, .call [] (.tup [.agg [iC bn4, iC bd5], iE 0]) [] 0 [] none, .no, .no, .no, .no, .no, .no] [2, 7, 9] [0, 1] (P := ((-9223372036854775808) ≤ x ∧ x ≤ 9223372036854775807) ∧ ((-9223372036854775808) ≤ (2 * x) ∧ (2 * x) ≤ 9223372036854775807) ∧ ((-9223372036854775808) ≤ (2 + (2 * x)) ∧ (2 + (2 * x)) ≤ 9223372036854775807) ∧ ((-9223372036854775808) ≤ y ∧ y ≤ 9223372036854775807) ∧ ((-9223372036854775808) ≤ (1 + y) ∧ (1 + y) ≤ 9223372036854775807) ∧ (_)) (l' := [(2, .e (.c (.d (D.lit (.int .u32 t))))), (7, rV 0 0), (9, rV 1 0)]) (g' := [(0, some (27, .ds [iD bn1, iD bd2])), (1, some (27, .ds [iD bn4, iD bd5]))]) (nx' := 2) (by kernel_rfl) ⟨⟨by omega, by omega⟩, ⟨by omega, by omega⟩, ⟨by omega, by omega⟩, ⟨by omega, by omega⟩, ⟨by omega, by omega⟩, hF6⟩ ?_
    have hx10 : t * bn4 / bd5 = 2 * (t * bn1 / bd2) ∨ t * bn4 / bd5 = 2 * (t * bn1 / bd2) + 1 := (dbl (show 1 ≤ 1 + y by omega) (fr_red (g := bg3) (by assumption) (by assumption) (by assumption)) (fr_red (g := bg6) (x := 2 * (1 + x)) (show bn4 * bg6 = 2 * (1 + x) by omega) (by assumption) (by assumption)))
    refine AW.rgs [.no, .call [] (.tup [.agg [.d (D.sl [iD 0, iD bn1, iD bd2] 1)], iE 0]) [] 0 [] none, .no, .no, .no, .no, .no, .no] [2, 9, 11, 12] [1, 2] (P := (_)) (l' := [(2, .e (.c (.d (D.lit (.int .u32 t))))), (9, rV 1 0), (11, rV 2 0), (12, iV 0)]) (g' := [(1, some (27, .ds [iD bn4, iD bd5])), (2, some (24, .ds [D.sl [iD 0, iD bn1, iD bd2] 1]))]) (nx' := 3) (by kernel_rfl) (N_New_ok_p bn1 bd2 hx2) ?_
    refine AW.rgs [.no, .call [] (.tup [.agg [.d (D.sl [iD 0, iD bn4, iD bd5] 1)], iE 0]) [] 0 [] none, .no, .no, .no, .no, .no, .no] [2, 11, 12, 13, 14] [2, 3] (P := (_)) (l' := [(2, .e (.c (.d (D.lit (.int .u32 t))))), (11, rV 2 0), (12, iV 0), (13, rV 3 0), (14, iV 0)]) (g' := [(2, some (24, .ds [D.sl [iD 0, iD bn1, iD bd2] 1])), (3, some (24, .ds [D.sl [iD 0, iD bn4, iD bd5] 1]))]) (nx' := 4) (by kernel_rfl) (N_New_ok_p bn4 bd5 hx6) ?_
    have hx11 : (((0 : Int) ≤ ((t * bn1) / bd2)) ∧ (((t * bn1) / bd2) ≤ 1125899906842624)) := (po_in (hx2) (by omega))
    refine AW.rgs [.no, .no, .w, .call [] (.tup [iE ((t * bn1) / bd2), iE 0]) [] 0 [] none, .no, .no, .no, .no, .no] [2, 12, 13, 14, 15, 16] [3] (P := ((-9223372036854775808) ≤ t ∧ t ≤ 9223372036854775807) ∧ (_)) (l' := [(2, .e (.c (.d (D.lit (.int .u32 t))))), (12, iV 0), (13, rV 3 0), (14, iV 0), (15, iV ((t * bn1) / bd2)), (16, iV 0)]) (g' := [(3, some (24, .ds [D.sl [iD 0, iD bn4, iD bd5] 1]))]) (nx' := 4) (by kernel_rfl) ⟨⟨by omega, by omega⟩, (L_po1 bn1 bd2 t hx2 (by omega))⟩ ?_
    have hx12 : (((0 : Int) ≤ ((t * bn4) / bd5)) ∧ (((t * bn4) / bd5) ≤ 1125899906842624)) := (po_in (hx6) (by omega))
    refine AW.rgs [.no, .no, .w, .call [] (.tup [iE ((t * bn4) / bd5), iE 0]) [] 0 [] none, .no, .no, .no, .no, .no] [12, 14, 15, 16, 17, 18] [] (P := ((-9223372036854775808) ≤ t ∧ t ≤ 9223372036854775807) ∧ (_)) (l' := [(12, iV 0), (14, iV 0), (15, iV ((t * bn1) / bd2)), (16, iV 0), (17, iV ((t * bn4) / bd5)), (18, iV 0)]) (g' := []) (nx' := 4) (by kernel_rfl) ⟨⟨by omega, by omega⟩, (L_po1 bn4 bd5 t hx6 (by omega))⟩ ?_
    by_cases hx13 : (((t * bn4) / bd5) = (2 * ((t * bn1) / bd2)))
    · refine AW.rgs [.no, .b true, .no, .no, .b true, .no, .no, .no, .b true, .no, .no, .no, .b true, .no, .no, .no, .no, .w, .b true, .no, .no, .no, .no] [6] [] (P := (((0 : Int) = 0)) ∧ (((0 : Int) = 0)) ∧ (((0 : Int) = 0)) ∧ (((0 : Int) = 0)) ∧ ((-9223372036854775808) ≤ (2 * ((t * bn1) / bd2)) ∧ (2 * ((t * bn1) / bd2)) ≤ 9223372036854775807) ∧ ((((t * bn4) / bd5) = (2 * ((t * bn1) / bd2))))) (l' := [(6, bV true)]) (g' := []) (nx' := 4) (by kernel_rfl) ⟨(by omega), (by omega), (by omega), (by omega), ⟨by omega, by omega⟩, (by omega)⟩ ?_
      refine AW.ret ?_
      exact EndP.of (.inr rfl) [] (P := (true = true)) (by kernel_rfl) rfl
    · refine AW.rgs [.no, .b true, .no, .no, .b true, .no, .no, .no, .b true, .no, .no, .no, .b true, .no, .no, .no, .no, .w, .b false, .no, .no, .no, .w, .w, .b true, .no, .no, .no] [6] [] (P := (((0 : Int) = 0)) ∧ (((0 : Int) = 0)) ∧ (((0 : Int) = 0)) ∧ (((0 : Int) = 0)) ∧ ((-9223372036854775808) ≤ (2 * ((t * bn1) / bd2)) ∧ (2 * ((t * bn1) / bd2)) ≤ 9223372036854775807) ∧ (¬ (((t * bn4) / bd5) = (2 * ((t * bn1) / bd2)))) ∧ ((-9223372036854775808) ≤ (2 * ((t * bn1) / bd2)) ∧ (2 * ((t * bn1) / bd2)) ≤ 9223372036854775807) ∧ ((-9223372036854775808) ≤ ((2 * ((t * bn1) / bd2)) + 1) ∧ ((2 * ((t * bn1) / bd2)) + 1) ≤ 9223372036854775807) ∧ ((((t * bn4) / bd5) = ((2 * ((t * bn1) / bd2)) + 1)))) (l' := [(6, bV true)]) (g' := []) (nx' := 4) (by kernel_rfl) ⟨(by omega), (by omega), (by omega), (by omega), ⟨by omega, by omega⟩, (by omega), ⟨by omega, by omega⟩, ⟨by omega, by omega⟩, (by omega)⟩ ?_
      refine AW.ret ?_
      exact EndP.of (.inr rfl) [] (P := (true = true)) (by kernel_rfl) rfl
  · refine AW.rgs [.call [] (bV false) [] 0 [] none, .no] [0, 1, 2, 20] [] (P := (Fun 9 [] (toG []) 0 (bV false) (toG []) 0)) (l' := [(0, .e (.c (.d (D.lit (.int .u8 x))))), (1, .e (.c (.d (D.lit (.int .u8 y))))), (2, .e (.c (.d (D.lit (.int .u32 t))))), (20, bV true)]) (g' := []) (nx' := 0) (by kernel_rfl) (by have h0 := (L_sane); rw [hx1] at h0; exact h0) ?_
    refine AW.cond_t (.tmp (Look.of rfl)) ?_
    refine AW.rgs [.no] [6] [] (P := True) (l' := [(6, bV false)]) (g' := []) (nx' := 0) (by kernel_rfl) trivial ?_
    refine AW.ret ?_
    exact EndP.of (.inr rfl) [] (P := (true = false)) (by kernel_rfl) (by first | rfl | assumption | exact decide_eq_true (by omega) | exact decide_eq_false (by omega) | (simp; omega))

theorem Sl.max {k : IntKind} {w : World} {a : Option Addr} {len cap : Nat} {l : List Int} (h : Sl k w a len cap l) : List.length l ≤ 9223372036854775807 := by
  obtain ⟨h1, h2, h3, _⟩ := h
  unfold maxLen at h3
  omega

theorem L_Dbl_walk {w : World} {x : Int} {y : Int} {t : Int}  (hi_x : 0 ≤ x ∧ x ≤ 255) (hi_y : 0 ≤ y ∧ y ≤ 255) (hi_t : 0 ≤ t ∧ t ≤ 4294967295) : Calls Try.prog 8 #[.int .u8 x, .int .u8 y, .int .u32 t] w fun e w' => e = .returned (.bool true) ∧ Below w.heap.size w w' :=
  (L_Dbl x y t hi_x hi_y hi_t).walk ⟨repE_lit rfl, repE_lit rfl, repE_lit rfl, trivial⟩

end Go.Proofs.Yteggelophhpnfaa
