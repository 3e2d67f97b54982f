/- A law of clocks. No statement is proved here. -/
import Derived.Test.YteggelophhpnfaaL13L
namespace Go.Proofs.Yteggelophhpnfaa
open Go.ChangeShapes Go.WideShapes Go.ChangeAt Go.RowKit
set_option linter.unusedVariables false
set_option linter.unusedSimpArgs false


theorem pos_one {r s t : Int} (h : rtB r s = true) (ht : 0 ≤ t ∧ t ≤ 1099511627776) : posV [0, r, s] 1 t = t * r / s := by
  have hc : ckB [0, r, s] 1 = true := ck_one.trans h
  have h1 := pos_at hc ht (j := 0) (by omega) (show (0 : Int) ≤ t from ht.1) (fun hh => by omega)
  rw [h1]
  show 0 + (t - 0) * r / s = _
  rw [Int.sub_zero, Int.zero_add]
theorem ck_two {r s a r2 s2 : Int} (h : rtB r s = true) (h2 : rtB r2 s2 = true) (ha : 0 < a ∧ a ≤ 1099511627776) : ckB [0, r, s, a, r2, s2] 2 = true :=
  ck_snoc (l := [0, r, s]) (n := 1) rfl (ck_one.trans h) (at_t ⟨ha.1, ha.2⟩) h2 (by omega)
theorem pos_two {r s a r2 s2 t : Int} (h : rtB r s = true) (h2 : rtB r2 s2 = true) (ha : 0 < a ∧ a ≤ t) (ht : t ≤ 1099511627776) : posV [0, r, s, a, r2, s2] 2 t = a * r / s + (t - a) * r2 / s2 := by
  have hc := ck_two h h2 (a := a) (by omega)
  have h1 := pos_at hc (by omega) (j := 1) (by omega) (show a ≤ t from ha.2) (fun hh => by omega)
  have h3 := ps_up hc (j := 0) (by omega)
  have e : psV [0, r, s, a, r2, s2] 2 1099511627776 (0 + 1) = a * r / s := by
    rw [h3]
    have e2 : toV [0, r, s, a, r2, s2] 2 1099511627776 0 = a := by
      unfold toV; rw [if_pos (by omega)]; show min 1099511627776 a = a; omega
    rw [e2]
    show 0 + (a - 0) * r / s = _
    rw [Int.sub_zero, Int.zero_add]
  rw [h1]
  exact congrArg (fun z => z + (t - a) * r2 / s2) e
theorem po_in {r s t : Int} (h : rtB r s = true) (ht : 0 ≤ t ∧ t ≤ 1099511627776) : 0 ≤ t * r / s ∧ t * r / s ≤ 1125899906842624 := by
  obtain ⟨h1, h2⟩ := rt_of h
  have h3 := ratOk_of h1
  have h4 := fr_in ht.1 h3.1 h3.2.2.1 (by omega)
  omega
theorem add_floor {u v x r s : Int} (hs : 1 ≤ s) (h : u + v = x) : x * r / s = u * r / s + v * r / s ∨ x * r / s = u * r / s + v * r / s + 1 := by
  subst h
  rw [Int.add_mul]
  have h1 := Int.mul_ediv_add_emod (u * r) s
  have h2 := Int.mul_ediv_add_emod (v * r) s
  have h3 := Int.mul_ediv_add_emod (u * r + v * r) s
  have a1 := Int.emod_nonneg (u * r) (show s ≠ 0 by omega)
  have a2 := Int.emod_nonneg (v * r) (show s ≠ 0 by omega)
  have b1 := Int.emod_lt_of_pos (u * r) (show 0 < s by omega)
  have b2 := Int.emod_lt_of_pos (v * r) (show 0 < s by omega)
  by_cases hc : u * r % s + v * r % s < s
  · left
    have q := (Int.ediv_emod_unique (a := u * r + v * r) (b := s) (r := u * r % s + v * r % s) (q := u * r / s + v * r / s) (by omega)).2 ⟨by rw [Int.mul_add]; omega, by omega, by omega⟩
    exact q.1
  · right
    have q := (Int.ediv_emod_unique (a := u * r + v * r) (b := s) (r := u * r % s + v * r % s - s) (q := u * r / s + v * r / s + 1) (by omega)).2 ⟨by rw [Int.mul_add, Int.mul_add, Int.mul_one]; omega, by omega, by omega⟩
    exact q.1

theorem L_ch (r s a r2 s2 : Int) (hr : rtB r s = true) (h2 : rtB r2 s2 = true) (ha : 0 < a ∧ a ≤ 1099511627776) : Fun 15 [.agg [.d (D.sl [iD 0, iD r, iD s] 1)], iE a, .agg [iC r2, iC s2]] (toG []) 0 (.tup [.agg [.d (D.sl [iD 0, iD r, iD s, iD a, iD r2, iD s2] 2)], iE 0]) (toG []) 0 := by
  exact N_Chp_5 [0, r, s] 1 a r2 s2 rfl (by omega) (ck_one.trans hr) (at_t ⟨ha.1, ha.2⟩) h2 (by omega)

theorem L_po2 (r s a r2 s2 t : Int) (hr : rtB r s = true) (h2 : rtB r2 s2 = true) (ha : 0 < a ∧ a ≤ t) (ht : t ≤ 1099511627776) : Fun 19 [.agg [.d (D.sl [iD 0, iD r, iD s, iD a, iD r2, iD s2] 2)], iE t] (toG []) 0 (.tup [iE (((a * r) / s) + (((t - a) * r2) / s2)), iE 0]) (toG []) 0 := by
  have h := Q_Pop3 [0, r, s, a, r2, s2] 2 t rfl (by omega) (ck_two hr h2 (by omega)) (by omega)
  rw [pos_two hr h2 ha ht] at h
  exact h

theorem L_po2e (r s a r2 s2 : Int) (hr : rtB r s = true) (h2 : rtB r2 s2 = true) (ha : 0 < a ∧ a ≤ 1099511627776) : Fun 19 [.agg [.d (D.sl [iD 0, iD r, iD s, iD a, iD r2, iD s2] 2)], iE a] (toG []) 0 (.tup [iE ((a * r) / s), iE 0]) (toG []) 0 := by
  have h := L_po2 r s a r2 s2 a hr h2 (by omega) (by omega)
  rw [Int.sub_self, Int.zero_mul, Int.zero_ediv, Int.add_zero] at h
  exact h

theorem L_po1 (r s t : Int) (hr : rtB r s = true) (ht : 0 ≤ t ∧ t ≤ 1099511627776) : Fun 19 [.agg [.d (D.sl [iD 0, iD r, iD s] 1)], iE t] (toG []) 0 (.tup [iE ((t * r) / s), iE 0]) (toG []) 0 := by
  have h := Q_Pop3 [0, r, s] 1 t rfl (by omega) (ck_one.trans hr) ht
  rw [pos_one hr ht] at h
  exact h

set_option maxHeartbeats 4000000 in
set_option maxRecDepth 100000 in
theorem L_Chg (sd : List Int) (m : Nat) (t u : Int) (hm : List.length sd = m) (hb : m ≤ 9223372036854775807) (hy : Byt sd) (ht : 0 ≤ t ∧ t ≤ 65535) (hu : 0 ≤ u ∧ u ≤ 65535) : Fun 7 [.c (.d (D.sl (dI .u8 sd) m)), .c (.d (D.lit (.int .u16 t))), .c (.d (D.lit (.int .u16 u)))] (toG []) 0 (bV true) (toG []) 0 := by
  refine Fun.mk (n := 127) Try.func7 rfl rfl (Nat.le_of_ble_eq_true rfl) ?_
  intro cx hcx
  refine AW.rgs [.no] [0, 1, 2] [] (P := True) (l' := [(0, sV .u8 sd m), (1, .e (.c (.d (D.lit (.int .u16 t))))), (2, .e (.c (.d (D.lit (.int .u16 u)))))]) (g' := []) (nx' := 0) (by kernel_rfl) trivial ?_
  refine AW.seq ?_
  rcases Bool.eq_false_or_eq_true (true) with hx1 | hx1
  · refine AW.rgs [.call [] (bV true) [] 0 [] none, .no] [0, 1, 2, 26] [] (P := (Fun 9 [] (toG []) 0 (bV true) (toG []) 0)) (l' := [(0, sV .u8 sd m), (1, .e (.c (.d (D.lit (.int .u16 t))))), (2, .e (.c (.d (D.lit (.int .u16 u))))), (26, bV false)]) (g' := []) (nx' := 0) (by kernel_rfl) (by have h0 := (L_sane); rw [hx1] at h0; exact h0) ?_
    refine AW.cond_f (.tmp (Look.of rfl)) ?_
    refine AW.skip ?_
    obtain ⟨d1, hx2, hx3, hF1⟩ := (X_New sd m (by omega) (by omega) (by first | omega | with_reducible assumption | (simp <;> omega) | rfl | assumption))
    refine AW.rgs [.no, .call [] (rV 0 0) [(0, some (72, .ds [D.sl (dI .u8 d1) (List.length d1)]))] 1 [] none, .no] [1, 2, 7] [0] (P := (_)) (l' := [(1, .e (.c (.d (D.lit (.int .u16 t))))), (2, .e (.c (.d (D.lit (.int .u16 u))))), (7, rV 0 0)]) (g' := [(0, some (72, .ds [D.sl (dI .u8 d1) (List.length d1)]))]) (nx' := 1) (by kernel_rfl) hF1 ?_
    obtain ⟨r2, s3, z4, hx4, hx5, hF4⟩ := (X_Rate d1 (by first | omega | with_reducible assumption | (simp <;> omega) | rfl | assumption))
    refine AW.rgs [.no, .call [0] (.e (.agg [iC r2, iC s3])) [(0, some (72, .ds [D.sl (dI .u8 z4) (List.length z4)]))] 1 [] none, .no, .no] [1, 2, 7, 8] [0, 1] (P := (_)) (l' := [(1, .e (.c (.d (D.lit (.int .u16 t))))), (2, .e (.c (.d (D.lit (.int .u16 u))))), (7, rV 0 0), (8, rV 1 0)]) (g' := [(0, some (72, .ds [D.sl (dI .u8 z4) (List.length z4)])), (1, some (27, .ds [iD r2, iD s3]))]) (nx' := 2) (by kernel_rfl) hF4 ?_
    have hx6 : 1 ≤ s3 := (ratOk_of (rt_of ‹rtB r2 s3 = true›).1).2.2.1
    have hx7 : (1 + t % 500 + u % 900) * r2 / s3 = (1 + t % 500) * r2 / s3 + ((1 + t % 500 + u % 900) - (1 + t % 500)) * r2 / s3 ∨ (1 + t % 500 + u % 900) * r2 / s3 = (1 + t % 500) * r2 / s3 + ((1 + t % 500 + u % 900) - (1 + t % 500)) * r2 / s3 + 1 := (add_floor (by omega) (by omega))
    refine AW.rgs [.no, .call [] (.tup [.agg [.d (D.sl [iD 0, iD r2, iD s3] 1)], iE 0]) [] 0 [] none, .no, .no, .no, .no, .no, .no] [1, 2, 7, 8, 9, 10] [0, 1, 2] (P := (_)) (l' := [(1, .e (.c (.d (D.lit (.int .u16 t))))), (2, .e (.c (.d (D.lit (.int .u16 u))))), (7, rV 0 0), (8, rV 1 0), (9, rV 2 0), (10, iV 0)]) (g' := [(0, some (72, .ds [D.sl (dI .u8 z4) (List.length z4)])), (1, some (27, .ds [iD r2, iD s3])), (2, some (24, .ds [D.sl [iD 0, iD r2, iD s3] 1]))]) (nx' := 3) (by kernel_rfl) (N_New_ok_p r2 s3 hx4) ?_
    refine AW.rgs [.no, .ps, .w, .w, .no, .ps, .w, .w, .no, .ps, .w, .w, .no, .no] [7, 8, 9, 10, 11, 12] [0, 1, 2] (P := ((0 : Int) ≤ (t : Int)) ∧ ((0 : Int) < (500 : Int)) ∧ ((-9223372036854775808) ≤ (t % 500) ∧ (t % 500) ≤ 9223372036854775807) ∧ ((-9223372036854775808) ≤ (1 + (t % 500)) ∧ (1 + (t % 500)) ≤ 9223372036854775807) ∧ ((0 : Int) ≤ (t : Int)) ∧ ((0 : Int) < (500 : Int)) ∧ ((-9223372036854775808) ≤ (t % 500) ∧ (t % 500) ≤ 9223372036854775807) ∧ ((-9223372036854775808) ≤ (1 + (t % 500)) ∧ (1 + (t % 500)) ≤ 9223372036854775807) ∧ ((0 : Int) ≤ (u : Int)) ∧ ((0 : Int) < (900 : Int)) ∧ ((-9223372036854775808) ≤ (u % 900) ∧ (u % 900) ≤ 9223372036854775807) ∧ ((-9223372036854775808) ≤ ((1 + (t % 500)) + (u % 900)) ∧ ((1 + (t % 500)) + (u % 900)) ≤ 9223372036854775807)) (l' := [(7, rV 0 0), (8, rV 1 0), (9, rV 2 0), (10, iV 0), (11, iV (1 + (t % 500))), (12, iV ((1 + (t % 500)) + (u % 900)))]) (g' := [(0, some (72, .ds [D.sl (dI .u8 z4) (List.length z4)])), (1, some (27, .ds [iD r2, iD s3])), (2, some (24, .ds [D.sl [iD 0, iD r2, iD s3] 1]))]) (nx' := 3) (by kernel_rfl) ⟨(by omega), (by omega), ⟨by omega, by omega⟩, ⟨by omega, by omega⟩, (by omega), (by omega), ⟨by omega, by omega⟩, ⟨by omega, by omega⟩, (by omega), (by omega), ⟨by omega, by omega⟩, ⟨by omega, by omega⟩⟩ ?_
    refine AW.rgs [.no, .no, .no, .call [] (.tup [.agg [.d (D.sl [iD 0, iD r2, iD s3, iD (1 + (t % 500)), iD r2, iD s3] 2)], iE 0]) [] 0 [] none, .no, .no, .no, .no, .no, .no] [7, 9, 10, 11, 12, 13, 14] [0, 2, 3] (P := (_)) (l' := [(7, rV 0 0), (9, rV 2 0), (10, iV 0), (11, iV (1 + (t % 500))), (12, iV ((1 + (t % 500)) + (u % 900))), (13, rV 3 0), (14, iV 0)]) (g' := [(0, some (72, .ds [D.sl (dI .u8 z4) (List.length z4)])), (2, some (24, .ds [D.sl [iD 0, iD r2, iD s3] 1])), (3, some (24, .ds [D.sl [iD 0, iD r2, iD s3, iD (1 + (t % 500)), iD r2, iD s3] 2]))]) (nx' := 4) (by kernel_rfl) (L_ch r2 s3 (1 + (t % 500)) r2 s3 hx4 hx4 (by omega)) ?_
    obtain ⟨r5, s6, z7, hx8, hx9, hF7⟩ := (X_Rate z4 (by first | omega | with_reducible assumption | (simp <;> omega) | rfl | assumption))
    refine AW.rgs [.no, .no, .no, .call [0] (.e (.agg [iC r5, iC s6])) [(0, some (72, .ds [D.sl (dI .u8 z7) (List.length z7)]))] 1 [] none, .call [] (.tup [.agg [.d (D.sl [iD 0, iD r2, iD s3, iD (1 + (t % 500)), iD r5, iD s6] 2)], iE 0]) [] 0 [] none, .no, .no, .no, .no, .no, .no] [9, 10, 11, 12, 13, 14, 15, 16] [2, 3, 4] (P := (_) ∧ (_)) (l' := [(9, rV 2 0), (10, iV 0), (11, iV (1 + (t % 500))), (12, iV ((1 + (t % 500)) + (u % 900))), (13, rV 3 0), (14, iV 0), (15, rV 4 0), (16, iV 0)]) (g' := [(2, some (24, .ds [D.sl [iD 0, iD r2, iD s3] 1])), (3, some (24, .ds [D.sl [iD 0, iD r2, iD s3, iD (1 + (t % 500)), iD r2, iD s3] 2])), (4, some (24, .ds [D.sl [iD 0, iD r2, iD s3, iD (1 + (t % 500)), iD r5, iD s6] 2]))]) (nx' := 5) (by kernel_rfl) ⟨hF7, (L_ch r2 s3 (1 + (t % 500)) r5 s6 hx4 hx8 (by omega))⟩ ?_
    refine AW.seq ?_
    refine AW.rgs [.no, .b false, .no, .no, .b false, .no, .no, .no, .b false, .no] [9, 11, 12, 13, 15, 72] [2, 3, 4] (P := (¬ ((0 : Int) ≠ 0)) ∧ (¬ ((0 : Int) ≠ 0)) ∧ (¬ ((0 : Int) ≠ 0))) (l' := [(9, rV 2 0), (11, iV (1 + (t % 500))), (12, iV ((1 + (t % 500)) + (u % 900))), (13, rV 3 0), (15, rV 4 0), (72, bV false)]) (g' := [(2, some (24, .ds [D.sl [iD 0, iD r2, iD s3] 1])), (3, some (24, .ds [D.sl [iD 0, iD r2, iD s3, iD (1 + (t % 500)), iD r2, iD s3] 2])), (4, some (24, .ds [D.sl [iD 0, iD r2, iD s3, iD (1 + (t % 500)), iD r5, iD s6] 2]))]) (nx' := 5) (by kernel_rfl) ⟨(by omega), (by omega), (by omega)⟩ ?_
    refine AW.cond_f (.tmp (Look.of rfl)) ?_
    refine AW.skip ?_
    have hx10 : (((0 : Int) ≤ ((((1 + (t % 500)) + (u % 900)) * r2) / s3)) ∧ (((((1 + (t % 500)) + (u % 900)) * r2) / s3) ≤ 1125899906842624)) := (po_in (hx4) (by omega))
    refine AW.rgs [.no, .no, .call [] (.tup [iE ((((1 + (t % 500)) + (u % 900)) * r2) / s3), iE 0]) [] 0 [] none, .no, .no, .no, .no, .no] [9, 11, 12, 13, 15, 17, 18] [2, 3, 4] (P := (_)) (l' := [(9, rV 2 0), (11, iV (1 + (t % 500))), (12, iV ((1 + (t % 500)) + (u % 900))), (13, rV 3 0), (15, rV 4 0), (17, iV ((((1 + (t % 500)) + (u % 900)) * r2) / s3)), (18, iV 0)]) (g' := [(2, some (24, .ds [D.sl [iD 0, iD r2, iD s3] 1])), (3, some (24, .ds [D.sl [iD 0, iD r2, iD s3, iD (1 + (t % 500)), iD r2, iD s3] 2])), (4, some (24, .ds [D.sl [iD 0, iD r2, iD s3, iD (1 + (t % 500)), iD r5, iD s6] 2]))]) (nx' := 5) (by kernel_rfl) (L_po1 r2 s3 ((1 + (t % 500)) + (u % 900)) hx4 (by omega)) ?_
    have hx11 : (((0 : Int) ≤ (((1 + (t % 500)) * r2) / s3)) ∧ ((((1 + (t % 500)) * r2) / s3) ≤ 1125899906842624)) := (po_in (hx4) (by omega))
    have hx12 : (((0 : Int) ≤ (((((1 + (t % 500)) + (u % 900)) - (1 + (t % 500))) * r2) / s3)) ∧ ((((((1 + (t % 500)) + (u % 900)) - (1 + (t % 500))) * r2) / s3) ≤ 1125899906842624)) := (po_in (hx4) (by omega))
    refine AW.rgs [.no, .no, .call [] (.tup [iE ((((1 + (t % 500)) * r2) / s3) + (((((1 + (t % 500)) + (u % 900)) - (1 + (t % 500))) * r2) / s3)), iE 0]) [] 0 [] none, .no, .no, .no, .no, .no] [9, 11, 15, 17, 18, 19, 20] [2, 4] (P := (_)) (l' := [(9, rV 2 0), (11, iV (1 + (t % 500))), (15, rV 4 0), (17, iV ((((1 + (t % 500)) + (u % 900)) * r2) / s3)), (18, iV 0), (19, iV ((((1 + (t % 500)) * r2) / s3) + (((((1 + (t % 500)) + (u % 900)) - (1 + (t % 500))) * r2) / s3))), (20, iV 0)]) (g' := [(2, some (24, .ds [D.sl [iD 0, iD r2, iD s3] 1])), (4, some (24, .ds [D.sl [iD 0, iD r2, iD s3, iD (1 + (t % 500)), iD r5, iD s6] 2]))]) (nx' := 5) (by kernel_rfl) (L_po2 r2 s3 (1 + (t % 500)) r2 s3 ((1 + (t % 500)) + (u % 900)) hx4 hx4 (by omega) (by omega)) ?_
    have hx13 : (((0 : Int) ≤ (((1 + (t % 500)) * r2) / s3)) ∧ ((((1 + (t % 500)) * r2) / s3) ≤ 1125899906842624)) := (po_in (hx4) (by omega))
    refine AW.rgs [.no, .no, .call [] (.tup [iE (((1 + (t % 500)) * r2) / s3), iE 0]) [] 0 [] none, .no, .no, .no, .no, .no] [11, 15, 17, 18, 19, 20, 21, 22] [4] (P := (_)) (l' := [(11, iV (1 + (t % 500))), (15, rV 4 0), (17, iV ((((1 + (t % 500)) + (u % 900)) * r2) / s3)), (18, iV 0), (19, iV ((((1 + (t % 500)) * r2) / s3) + (((((1 + (t % 500)) + (u % 900)) - (1 + (t % 500))) * r2) / s3))), (20, iV 0), (21, iV (((1 + (t % 500)) * r2) / s3)), (22, iV 0)]) (g' := [(4, some (24, .ds [D.sl [iD 0, iD r2, iD s3, iD (1 + (t % 500)), iD r5, iD s6] 2]))]) (nx' := 5) (by kernel_rfl) (L_po1 r2 s3 (1 + (t % 500)) hx4 (by omega)) ?_
    refine AW.rgs [.no, .no, .call [] (.tup [iE (((1 + (t % 500)) * r2) / s3), iE 0]) [] 0 [] none, .no, .no, .no, .no, .no] [17, 18, 19, 20, 21, 22, 23, 24] [] (P := (_)) (l' := [(17, iV ((((1 + (t % 500)) + (u % 900)) * r2) / s3)), (18, iV 0), (19, iV ((((1 + (t % 500)) * r2) / s3) + (((((1 + (t % 500)) + (u % 900)) - (1 + (t % 500))) * r2) / s3))), (20, iV 0), (21, iV (((1 + (t % 500)) * r2) / s3)), (22, iV 0), (23, iV (((1 + (t % 500)) * r2) / s3)), (24, iV 0)]) (g' := []) (nx' := 5) (by kernel_rfl) (L_po2e r2 s3 (1 + (t % 500)) r5 s6 hx4 hx8 (by omega)) ?_
    by_cases hx14 : (((((1 + (t % 500)) + (u % 900)) * r2) / s3) = ((((1 + (t % 500)) * r2) / s3) + (((((1 + (t % 500)) + (u % 900)) - (1 + (t % 500))) * r2) / s3)))
    · refine AW.rgs [.no, .b true, .no, .no, .b true, .no, .no, .no, .b true, .no, .no, .no, .b true, .no, .no, .no, .no, .b true, .no, .no, .no, .no, .no, .no, .b true, .no, .no] [6] [] (P := (((0 : Int) = 0)) ∧ (((0 : Int) = 0)) ∧ (((0 : Int) = 0)) ∧ (((0 : Int) = 0)) ∧ ((((((1 + (t % 500)) + (u % 900)) * r2) / s3) = ((((1 + (t % 500)) * r2) / s3) + (((((1 + (t % 500)) + (u % 900)) - (1 + (t % 500))) * r2) / s3)))) ∧ (((((1 + (t % 500)) * r2) / s3) = (((1 + (t % 500)) * r2) / s3)))) (l' := [(6, bV true)]) (g' := []) (nx' := 5) (by kernel_rfl) ⟨(by omega), (by omega), (by omega), (by omega), (by omega), (by omega)⟩ ?_
      refine AW.ret ?_
      exact EndP.of (.inr rfl) [] (P := (true = true)) (by kernel_rfl) rfl
    · refine AW.rgs [.no, .b true, .no, .no, .b true, .no, .no, .no, .b true, .no, .no, .no, .b true, .no, .no, .no, .no, .b false, .no, .no, .no, .w, .b true, .no, .no, .no, .no, .no, .b true, .no, .no] [6] [] (P := (((0 : Int) = 0)) ∧ (((0 : Int) = 0)) ∧ (((0 : Int) = 0)) ∧ (((0 : Int) = 0)) ∧ (¬ (((((1 + (t % 500)) + (u % 900)) * r2) / s3) = ((((1 + (t % 500)) * r2) / s3) + (((((1 + (t % 500)) + (u % 900)) - (1 + (t % 500))) * r2) / s3)))) ∧ ((-9223372036854775808) ≤ (((((1 + (t % 500)) * r2) / s3) + (((((1 + (t % 500)) + (u % 900)) - (1 + (t % 500))) * r2) / s3)) + 1) ∧ (((((1 + (t % 500)) * r2) / s3) + (((((1 + (t % 500)) + (u % 900)) - (1 + (t % 500))) * r2) / s3)) + 1) ≤ 9223372036854775807) ∧ ((((((1 + (t % 500)) + (u % 900)) * r2) / s3) = (((((1 + (t % 500)) * r2) / s3) + (((((1 + (t % 500)) + (u % 900)) - (1 + (t % 500))) * r2) / s3)) + 1))) ∧ (((((1 + (t % 500)) * r2) / s3) = (((1 + (t % 500)) * r2) / s3)))) (l' := [(6, bV true)]) (g' := []) (nx' := 5) (by kernel_rfl) ⟨(by omega), (by omega), (by omega), (by omega), (by omega), ⟨by omega, by omega⟩, (by omega), (by omega)⟩ ?_
      refine AW.ret ?_
      exact EndP.of (.inr rfl) [] (P := (true = true)) (by kernel_rfl) rfl
  · refine AW.rgs [.call [] (bV false) [] 0 [] none, .no] [0, 1, 2, 26] [] (P := (Fun 9 [] (toG []) 0 (bV false) (toG []) 0)) (l' := [(0, sV .u8 sd m), (1, .e (.c (.d (D.lit (.int .u16 t))))), (2, .e (.c (.d (D.lit (.int .u16 u))))), (26, bV true)]) (g' := []) (nx' := 0) (by kernel_rfl) (by have h0 := (L_sane); rw [hx1] at h0; exact h0) ?_
    refine AW.cond_t (.tmp (Look.of rfl)) ?_
    refine AW.rgs [.no] [6] [] (P := True) (l' := [(6, bV false)]) (g' := []) (nx' := 0) (by kernel_rfl) trivial ?_
    refine AW.ret ?_
    exact EndP.of (.inr rfl) [] (P := (true = false)) (by kernel_rfl) (by first | rfl | assumption | exact decide_eq_true (by omega) | exact decide_eq_false (by omega) | (simp; omega))

theorem Sl.max {k : IntKind} {w : World} {a : Option Addr} {len cap : Nat} {l : List Int} (h : Sl k w a len cap l) : List.length l ≤ 9223372036854775807 := by
  obtain ⟨h1, h2, h3, _⟩ := h
  unfold maxLen at h3
  omega

theorem L_Chg_walk {w : World} {t : Int} {u : Int} {xa0 : Option Addr} {xl0 xc0 : Nat} {sd : List Int} (hs0 : Sl .u8 w xa0 xl0 xc0 sd) (hi_t : 0 ≤ t ∧ t ≤ 65535) (hi_u : 0 ≤ u ∧ u ≤ 65535) : Calls Try.prog 7 #[.slice xa0 xl0 xc0, .int .u16 t, .int .u16 u] w fun e w' => e = .returned (.bool true) ∧ Below w.heap.size w w' :=
  (L_Chg sd (List.length sd) t u rfl hs0.max (Byt.of fun x hx => bounds_u8 (hs0.wf x hx)) hi_t hi_u).walk ⟨repE_sl hs0, repE_lit rfl, repE_lit rfl, trivial⟩

end Go.Proofs.Yteggelophhpnfaa
