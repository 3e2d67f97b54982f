/- A law of clocks. No statement is proved here. -/
import Derived.Test.YteggelophhpnfaaL13K
namespace Go.Proofs.Yteggelophhpnfaa
open Go.ChangeShapes Go.WideShapes Go.ChangeAt Go.RowKit
set_option linter.unusedVariables false
set_option linter.unusedSimpArgs false


theorem pos_one {r s t : Int} (h : rtB r s = true) (ht : 0 ≤ t ∧ t ≤ 1099511627776) : posV [0, r, s] 1 t = t * r / s := by
  have hc : ckB [0, r, s] 1 = true := ck_one.trans h
  have h1 := pos_at hc ht (j := 0) (by omega) (show (0 : Int) ≤ t from ht.1) (fun hh => by omega)
  rw [h1]
  show 0 + (t - 0) * r / s = _
  rw [Int.sub_zero, Int.zero_add]
theorem ck_two {r s a r2 s2 : Int} (h : rtB r s = true) (h2 : rtB r2 s2 = true) (ha : 0 < a ∧ a ≤ 1099511627776) : ckB [0, r, s, a, r2, s2] 2 = true :=
  ck_snoc (l := [0, r, s]) (n := 1) rfl (ck_one.trans h) (at_t ⟨ha.1, ha.2⟩) h2 (by omega)
theorem pos_two {r s a r2 s2 t : Int} (h : rtB r s = true) (h2 : rtB r2 s2 = true) (ha : 0 < a ∧ a ≤ t) (ht : t ≤ 1099511627776) : posV [0, r, s, a, r2, s2] 2 t = a * r / s + (t - a) * r2 / s2 := by
  have hc := ck_two h h2 (a := a) (by omega)
  have h1 := pos_at hc (by omega) (j := 1) (by omega) (show a ≤ t from ha.2) (fun hh => by omega)
  have h3 := ps_up hc (j := 0) (by omega)
  have e : psV [0, r, s, a, r2, s2] 2 1099511627776 (0 + 1) = a * r / s := by
    rw [h3]
    have e2 : toV [0, r, s, a, r2, s2] 2 1099511627776 0 = a := by
      unfold toV; rw [if_pos (by omega)]; show min 1099511627776 a = a; omega
    rw [e2]
    show 0 + (a - 0) * r / s = _
    rw [Int.sub_zero, Int.zero_add]
  rw [h1]
  exact congrArg (fun z => z + (t - a) * r2 / s2) e
theorem po_in {r s t : Int} (h : rtB r s = true) (ht : 0 ≤ t ∧ t ≤ 1099511627776) : 0 ≤ t * r / s ∧ t * r / s ≤ 1125899906842624 := by
  obtain ⟨h1, h2⟩ := rt_of h
  have h3 := ratOk_of h1
  have h4 := fr_in ht.1 h3.1 h3.2.2.1 (by omega)
  omega
theorem add_floor {u v x r s : Int} (hs : 1 ≤ s) (h : u + v = x) : x * r / s = u * r / s + v * r / s ∨ x * r / s = u * r / s + v * r / s + 1 := by
  subst h
  rw [Int.add_mul]
  have h1 := Int.mul_ediv_add_emod (u * r) s
  have h2 := Int.mul_ediv_add_emod (v * r) s
  have h3 := Int.mul_ediv_add_emod (u * r + v * r) s
  have a1 := Int.emod_nonneg (u * r) (show s ≠ 0 by omega)
  have a2 := Int.emod_nonneg (v * r) (show s ≠ 0 by omega)
  have b1 := Int.emod_lt_of_pos (u * r) (show 0 < s by omega)
  have b2 := Int.emod_lt_of_pos (v * r) (show 0 < s by omega)
  by_cases hc : u * r % s + v * r % s < s
  · left
    have q := (Int.ediv_emod_unique (a := u * r + v * r) (b := s) (r := u * r % s + v * r % s) (q := u * r / s + v * r / s) (by omega)).2 ⟨by rw [Int.mul_add]; omega, by omega, by omega⟩
    exact q.1
  · right
    have q := (Int.ediv_emod_unique (a := u * r + v * r) (b := s) (r := u * r % s + v * r % s - s) (q := u * r / s + v * r / s + 1) (by omega)).2 ⟨by rw [Int.mul_add, Int.mul_add, Int.mul_one]; omega, by omega, by omega⟩
    exact q.1

theorem L_ch (r s a r2 s2 : Int) (hr : rtB r s = true) (h2 : rtB r2 s2 = true) (ha : 0 < a ∧ a ≤ 1099511627776) : Fun 15 [.agg [.d (D.sl [iD 0, iD r, iD s] 1)], iE a, .agg [iC r2, iC s2]] (toG []) 0 (.tup [.agg [.d (D.sl [iD 0, iD r, iD s, iD a, iD r2, iD s2] 2)], iE 0]) (toG []) 0 := by
  exact N_Chp_5 [0, r, s] 1 a r2 s2 rfl (by omega) (ck_one.trans hr) (at_t ⟨ha.1, ha.2⟩) h2 (by omega)

theorem L_po2 (r s a r2 s2 t : Int) (hr : rtB r s = true) (h2 : rtB r2 s2 = true) (ha : 0 < a ∧ a ≤ t) (ht : t ≤ 1099511627776) : Fun 19 [.agg [.d (D.sl [iD 0, iD r, iD s, iD a, iD r2, iD s2] 2)], iE t] (toG []) 0 (.tup [iE (((a * r) / s) + (((t - a) * r2) / s2)), iE 0]) (toG []) 0 := by
  have h := Q_Pop3 [0, r, s, a, r2, s2] 2 t rfl (by omega) (ck_two hr h2 (by omega)) (by omega)
  rw [pos_two hr h2 ha ht] at h
  exact h

theorem L_po2e (r s a r2 s2 : Int) (hr : rtB r s = true) (h2 : rtB r2 s2 = true) (ha : 0 < a ∧ a ≤ 1099511627776) : Fun 19 [.agg [.d (D.sl [iD 0, iD r, iD s, iD a, iD r2, iD s2] 2)], iE a] (toG []) 0 (.tup [iE ((a * r) / s), iE 0]) (toG []) 0 := by
  have h := L_po2 r s a r2 s2 a hr h2 (by omega) (by omega)
  rw [Int.sub_self, Int.zero_mul, Int.zero_ediv, Int.add_zero] at h
  exact h

theorem L_po1 (r s t : Int) (hr : rtB r s = true) (ht : 0 ≤ t ∧ t ≤ 1099511627776) : Fun 19 [.agg [.d (D.sl [iD 0, iD r, iD s] 1)], iE t] (toG []) 0 (.tup [iE ((t * r) / s), iE 0]) (toG []) 0 := by
  have h := Q_Pop3 [0, r, s] 1 t rfl (by omega) (ck_one.trans hr) ht
  rw [pos_one hr ht] at h
  exact h


theorem st_weaker {l : List Int} {c : Nat} {H F P st sl sl' J J' : Int} {n : Nat} (h : stB l c H F P st sl J n = true) (h1 : sl ≤ sl') (h2 : J ≤ J') : stB l c H F P st sl' J' n = true := by
  refine stB_iff.2 fun i k hi hk => ?_
  have h3 := stB_iff.1 h i k hi hk
  have h4 : ((k : Int) - (i : Int)) * sl ≤ ((k : Int) - (i : Int)) * sl' := Int.mul_le_mul_of_nonneg_left h1 (by omega)
  constructor <;> omega
theorem w_one {r s P : Int} (h : rtB r s = true) (hP : 1 ≤ P ∧ P ≤ 256) {k : Nat} (hk : k ≤ 20) : ∃ z : Int, 0 ≤ z ∧ z < s ∧ wM [0, r, s] 1 (s * 65536) 3 P k = 65536 * ((3 + (k : Int) * P) * r - z) := by
  have h1 := ratOk_of (rt_of h).1
  have h2 := mp_in hk hP
  refine ⟨(3 + (k : Int) * P) * r % s, Int.emod_nonneg _ (by omega), Int.emod_lt_of_pos _ (by omega), ?_⟩
  have h3 := Int.mul_ediv_add_emod ((3 + (k : Int) * P) * r) s
  unfold wM
  rw [pos_one h (by omega), show s * 65536 * ((3 + (k : Int) * P) * r / s) = 65536 * (s * ((3 + (k : Int) * P) * r / s)) by rw [Int.mul_comm s 65536, Int.mul_assoc]]
  congr 1
  omega
theorem steady_one {r s P : Int} {m : Nat} (h : rtB r s = true) (hP : 1 ≤ P ∧ P ≤ 256) (hm : m ≤ 20) : stB [0, r, s] 1 (s * 65536) 3 P (r * P * 65536) (r * P * 0) (s * 65536 * 1) (m + 1) = true := by
  refine stB_iff.2 fun i k hi hk => ?_
  obtain ⟨y, y1, y2, y3⟩ := w_one h hP (k := i) (by omega)
  obtain ⟨z, z1, z2, z3⟩ := w_one h hP (k := k) (by omega)
  rw [y3, z3, Int.mul_zero, Int.mul_zero, Int.mul_one]
  have e : (3 + (k : Int) * P) * r - (3 + (i : Int) * P) * r = ((k : Int) - (i : Int)) * (r * P) := by
    rw [← Int.sub_mul, show 3 + (k : Int) * P - (3 + (i : Int) * P) = (k : Int) * P - (i : Int) * P by omega, ← Int.sub_mul, Int.mul_assoc, Int.mul_comm P r]
  have e2 : ((k : Int) - (i : Int)) * (r * P * 65536) = 65536 * (((k : Int) - (i : Int)) * (r * P)) := by
    rw [← Int.mul_assoc, Int.mul_comm _ 65536]
  rw [e2]
  constructor <;> omega

set_option maxHeartbeats 4000000 in
set_option maxRecDepth 100000 in
theorem L_gcd1   : Fun 45 [iE 1, iE 1] (toG []) 0 (iV 1) (toG []) 0 := by
  refine Fun.mk (n := 12) Try.func45 rfl rfl (Nat.le_of_ble_eq_true rfl) ?_
  intro cx hcx
  refine AW.rgs [.no] [0, 1] [] (P := True) (l' := [(0, iV 1), (1, iV 1)]) (g' := []) (nx' := 0) (by kernel_rfl) trivial ?_
  refine AW.seq ?_
  refine AW.block ?_
  refine AW.rounds 4 ?_
  refine AWr.s ?_
  refine AW.seq ?_
  refine AW.rgs [.no, .b true] [0, 1, 6] [] (P := (((1 : Int) ≠ 0))) (l' := [(0, iV 1), (1, iV 1), (6, bV true)]) (g' := []) (nx' := 0) (by kernel_rfl) (by omega) ?_
  refine AW.cond_t (.tmp (Look.of rfl)) ?_
  refine AW.skip ?_
  refine AW.block ?_
  refine AW.rg [.no, .no, .no, .ps, .no, .no] [0, 1] [] (P := ((0 : Int) ≤ (1 : Int)) ∧ ((0 : Int) < (1 : Int))) (l' := [(0, iV 1), (1, iV 0)]) (g' := []) (nx' := 0) (by kernel_rfl) ⟨(by omega), (by omega)⟩ ?_
  refine AWr.s ?_
  refine AW.seq ?_
  refine AW.rgs [.no, .b false] [0, 1, 6] [] (P := (¬ ((0 : Int) ≠ 0))) (l' := [(0, iV 1), (1, iV 0), (6, bV false)]) (g' := []) (nx' := 0) (by kernel_rfl) (by omega) ?_
  refine AW.cond_f (.tmp (Look.of rfl)) ?_
  refine AW.exit ?_
  refine AW.rgs [.no, .no] [4] [] (P := True) (l' := [(4, iV 1)]) (g' := []) (nx' := 0) (by kernel_rfl) trivial ?_
  refine AW.ret ?_
  exact EndP.of (.inr rfl) [] (P := ((1 : Int) = 1)) (by kernel_rfl) rfl

set_option maxHeartbeats 4000000 in
set_option maxRecDepth 100000 in
theorem L_mk1   : Fun 29 [iE 1, iE 1] (toG []) 0 (.tup [.agg [iC 1, iC 1], iE 0]) (toG []) 0 := by
  refine Fun.mk (n := 35) Try.func29 rfl rfl (Nat.le_of_ble_eq_true rfl) ?_
  intro cx hcx
  refine AW.rgs [.no, .no] [0, 1, 4] [0] (P := True) (l' := [(0, iV 1), (1, iV 1), (4, rV 0 0)]) (g' := [(0, some (27, .ds [iD 0, iD 0]))]) (nx' := 1) (by kernel_rfl) trivial ?_
  refine AW.seq ?_
  refine AW.rgs [.no, .b false, .no, .no, .b false, .no] [0, 1, 4, 13] [0] (P := (¬ ((1 : Int) < 1)) ∧ (¬ ((1 : Int) < 1))) (l' := [(0, iV 1), (1, iV 1), (4, rV 0 0), (13, bV false)]) (g' := [(0, some (27, .ds [iD 0, iD 0]))]) (nx' := 1) (by kernel_rfl) ⟨(by omega), (by omega)⟩ ?_
  refine AW.cond_f (.tmp (Look.of rfl)) ?_
  refine AW.skip ?_
  refine AW.rgs [.no, .no, .call [] (iV 1) [] 0 [] none, .no] [0, 1, 4, 6] [0] (P := (_)) (l' := [(0, iV 1), (1, iV 1), (4, rV 0 0), (6, iV 1)]) (g' := [(0, some (27, .ds [iD 0, iD 0]))]) (nx' := 1) (by kernel_rfl) (L_gcd1) ?_
  refine AW.rgs [.no, .no, .ps, .no, .no, .ps, .no, .no, .no] [4, 7] [0, 1] (P := ((0 : Int) ≤ (1 : Int)) ∧ ((0 : Int) < (1 : Int)) ∧ ((-9223372036854775808) ≤ (1 : Int) ∧ (1 : Int) ≤ 9223372036854775807) ∧ ((0 : Int) ≤ (1 : Int)) ∧ ((0 : Int) < (1 : Int)) ∧ ((-9223372036854775808) ≤ (1 : Int) ∧ (1 : Int) ≤ 9223372036854775807)) (l' := [(4, rV 0 0), (7, rV 1 0)]) (g' := [(0, some (27, .ds [iD 0, iD 0])), (1, some (27, .ds [iD 1, iD 1]))]) (nx' := 2) (by kernel_rfl) ⟨(by omega), (by omega), ⟨by omega, by omega⟩, (by omega), (by omega), ⟨by omega, by omega⟩⟩ ?_
  refine AW.seq ?_
  refine AW.rgs [.no, .no, .b false, .no, .no, .no, .b false, .no] [4, 7, 32] [0, 1] (P := (¬ ((68719476736 : Int) < 1)) ∧ (¬ ((68719476736 : Int) < 1))) (l' := [(4, rV 0 0), (7, rV 1 0), (32, bV false)]) (g' := [(0, some (27, .ds [iD 0, iD 0])), (1, some (27, .ds [iD 1, iD 1]))]) (nx' := 2) (by kernel_rfl) ⟨(by omega), (by omega)⟩ ?_
  refine AW.cond_f (.tmp (Look.of rfl)) ?_
  refine AW.skip ?_
  refine AW.rgs [.no, .no, .no] [4, 5] [0] (P := True) (l' := [(4, rV 0 0), (5, iV 0)]) (g' := [(0, some (27, .ds [iD 1, iD 1]))]) (nx' := 2) (by kernel_rfl) trivial ?_
  refine AW.ret ?_
  exact EndP.of (.inr rfl) [] (P := ((1 : Int) = 1) ∧ ((1 : Int) = 1) ∧ ((0 : Int) = 0)) (by kernel_rfl) ⟨rfl, rfl, rfl⟩

set_option maxHeartbeats 4000000 in
set_option maxRecDepth 100000 in
theorem L_Std (sd : List Int) (m : Nat) (pe ti dr mo : Int) (hm : List.length sd = m) (hb : m ≤ 9223372036854775807) (hy : Byt sd) (hpe : 0 ≤ pe ∧ pe ≤ 255) (hti : 0 ≤ ti ∧ ti ≤ 255) (hdr : 0 ≤ dr ∧ dr ≤ 255) (hmo : 0 ≤ mo ∧ mo ≤ 255) : Fun 6 [.c (.d (D.sl (dI .u8 sd) m)), .c (.d (D.lit (.int .u8 pe))), .c (.d (D.lit (.int .u8 ti))), .c (.d (D.lit (.int .u8 dr))), .c (.d (D.lit (.int .u8 mo)))] (toG []) 0 (bV true) (toG []) 0 := by
  refine Fun.mk (n := 80) Try.func6 rfl rfl (Nat.le_of_ble_eq_true rfl) ?_
  intro cx hcx
  refine AW.rgs [.no] [0, 1, 2, 3, 4] [] (P := True) (l' := [(0, sV .u8 sd m), (1, .e (.c (.d (D.lit (.int .u8 pe))))), (2, .e (.c (.d (D.lit (.int .u8 ti))))), (3, .e (.c (.d (D.lit (.int .u8 dr))))), (4, .e (.c (.d (D.lit (.int .u8 mo)))))]) (g' := []) (nx' := 0) (by kernel_rfl) trivial ?_
  refine AW.seq ?_
  rcases Bool.eq_false_or_eq_true (true) with hx1 | hx1
  · refine AW.rgs [.call [] (bV true) [] 0 [] none, .no] [0, 1, 2, 3, 4, 21] [] (P := (Fun 9 [] (toG []) 0 (bV true) (toG []) 0)) (l' := [(0, sV .u8 sd m), (1, .e (.c (.d (D.lit (.int .u8 pe))))), (2, .e (.c (.d (D.lit (.int .u8 ti))))), (3, .e (.c (.d (D.lit (.int .u8 dr))))), (4, .e (.c (.d (D.lit (.int .u8 mo))))), (21, bV false)]) (g' := []) (nx' := 0) (by kernel_rfl) (by have h0 := (L_sane); rw [hx1] at h0; exact h0) ?_
    refine AW.cond_f (.tmp (Look.of rfl)) ?_
    refine AW.skip ?_
    obtain ⟨fq, hfq⟩ : ∃ fq : Nat, ti % 20 = ((fq : Nat) : Int) ∧ fq ≤ 19 := ⟨(ti % 20).toNat, by omega, by omega⟩
    have hfm : ti % 20 * (1 + pe) = ((fq : Nat) : Int) * (1 + pe) := by rw [hfq.1]
    have hfb : 0 ≤ ti % 20 * (1 + pe) ∧ ti % 20 * (1 + pe) ≤ 5120 := by rw [hfm]; exact mp_in (by omega) (by omega)
    obtain ⟨d1, hx2, hx3, hF1⟩ := (X_New sd m (by omega) (by omega) (by first | omega | with_reducible assumption | (simp <;> omega) | rfl | assumption))
    refine AW.rgs [.no, .call [] (rV 0 0) [(0, some (72, .ds [D.sl (dI .u8 d1) (List.length d1)]))] 1 [] none, .no] [1, 2, 3, 4, 11] [0] (P := (_)) (l' := [(1, .e (.c (.d (D.lit (.int .u8 pe))))), (2, .e (.c (.d (D.lit (.int .u8 ti))))), (3, .e (.c (.d (D.lit (.int .u8 dr))))), (4, .e (.c (.d (D.lit (.int .u8 mo))))), (11, rV 0 0)]) (g' := [(0, some (72, .ds [D.sl (dI .u8 d1) (List.length d1)]))]) (nx' := 1) (by kernel_rfl) hF1 ?_
    obtain ⟨r2, s3, z4, hx4, hx5, hF4⟩ := (X_Rate d1 (by first | omega | with_reducible assumption | (simp <;> omega) | rfl | assumption))
    refine AW.rgs [.no, .call [0] (.e (.agg [iC r2, iC s3])) [(0, some (72, .ds [D.sl (dI .u8 z4) (List.length z4)]))] 1 [] none, .no, .no] [1, 2, 3, 4, 11, 12] [0, 1] (P := (_)) (l' := [(1, .e (.c (.d (D.lit (.int .u8 pe))))), (2, .e (.c (.d (D.lit (.int .u8 ti))))), (3, .e (.c (.d (D.lit (.int .u8 dr))))), (4, .e (.c (.d (D.lit (.int .u8 mo))))), (11, rV 0 0), (12, rV 1 0)]) (g' := [(0, some (72, .ds [D.sl (dI .u8 z4) (List.length z4)])), (1, some (27, .ds [iD r2, iD s3]))]) (nx' := 2) (by kernel_rfl) hF4 ?_
    have hx6 : ratOk r2 s3 = true := (rt_of ‹rtB r2 s3 = true›).1
    have hx7 : ckB ([0, r2, s3] : List Int) (1 : Nat) = true := (ck_one.trans ‹rtB r2 s3 = true›)
    have hx8 : stB ([0, r2, s3] : List Int) 1 (s3 * 65536) 3 (1 + pe) (r2 * (1 + pe) * 65536) (r2 * (1 + pe) * 0) (s3 * 65536 * 1) (fq + 1) = true := (steady_one ‹rtB r2 s3 = true› (by omega) (by omega))
    refine AW.rgs [.no, .call [] (.tup [.agg [.d (D.sl [iD 0, iD r2, iD s3] 1)], iE 0]) [] 0 [] none, .no, .no, .no, .no, .no, .no] [1, 2, 3, 4, 11, 12, 13, 14] [0, 1, 2] (P := (_)) (l' := [(1, .e (.c (.d (D.lit (.int .u8 pe))))), (2, .e (.c (.d (D.lit (.int .u8 ti))))), (3, .e (.c (.d (D.lit (.int .u8 dr))))), (4, .e (.c (.d (D.lit (.int .u8 mo))))), (11, rV 0 0), (12, rV 1 0), (13, rV 2 0), (14, iV 0)]) (g' := [(0, some (72, .ds [D.sl (dI .u8 z4) (List.length z4)])), (1, some (27, .ds [iD r2, iD s3])), (2, some (24, .ds [D.sl [iD 0, iD r2, iD s3] 1]))]) (nx' := 3) (by kernel_rfl) (N_New_ok_p r2 s3 hx4) ?_
    refine AW.rgs [.no, .w, .w, .no, .ps, .w, .no, .no] [3, 4, 11, 12, 13, 14, 15, 16] [0, 1, 2] (P := ((-9223372036854775808) ≤ pe ∧ pe ≤ 9223372036854775807) ∧ ((-9223372036854775808) ≤ (1 + pe) ∧ (1 + pe) ≤ 9223372036854775807) ∧ ((0 : Int) ≤ (ti : Int)) ∧ ((0 : Int) < (20 : Int)) ∧ ((-9223372036854775808) ≤ (ti % 20) ∧ (ti % 20) ≤ 9223372036854775807)) (l' := [(3, .e (.c (.d (D.lit (.int .u8 dr))))), (4, .e (.c (.d (D.lit (.int .u8 mo))))), (11, rV 0 0), (12, rV 1 0), (13, rV 2 0), (14, iV 0), (15, iV (1 + pe)), (16, iV (ti % 20))]) (g' := [(0, some (72, .ds [D.sl (dI .u8 z4) (List.length z4)])), (1, some (27, .ds [iD r2, iD s3])), (2, some (24, .ds [D.sl [iD 0, iD r2, iD s3] 1]))]) (nx' := 3) (by kernel_rfl) ⟨⟨by omega, by omega⟩, ⟨by omega, by omega⟩, (by omega), (by omega), ⟨by omega, by omega⟩⟩ ?_
    refine AW.seq ?_
    refine AW.rgs [.no, .b false, .no, .no, .no, .no, .no, .no, .w, .w, .call [] (bV true) [] 0 [] none, .no, .no] [3, 4, 11, 15, 16, 49] [0] (P := (¬ ((0 : Int) ≠ 0)) ∧ ((-9223372036854775808) ≤ ((ti % 20) * (1 + pe)) ∧ ((ti % 20) * (1 + pe)) ≤ 9223372036854775807) ∧ ((-9223372036854775808) ≤ (3 + ((ti % 20) * (1 + pe))) ∧ (3 + ((ti % 20) * (1 + pe))) ≤ 9223372036854775807) ∧ (Fun 27 [.agg [.d (D.sl [iD 0, iD r2, iD s3] 1)], .agg [iC r2, iC s3], iE 0, iE 1, iE (1 + pe), iE 3, iE (3 + ((ti % 20) * (1 + pe)))] (toG []) 0 (bV true) (toG []) 0)) (l' := [(3, .e (.c (.d (D.lit (.int .u8 dr))))), (4, .e (.c (.d (D.lit (.int .u8 mo))))), (11, rV 0 0), (15, iV (1 + pe)), (16, iV (ti % 20)), (49, bV false)]) (g' := [(0, some (72, .ds [D.sl (dI .u8 z4) (List.length z4)]))]) (nx' := 3) (by kernel_rfl) ⟨(by omega), ⟨by omega, by omega⟩, ⟨by omega, by omega⟩, (by have h0 := (Y_keeps ([0, r2, s3] : List Int) 1 fq s3 r2 3 (1 + pe) (3 + ((ti % 20) * (1 + pe))) 0 1 (by first | omega | with_reducible assumption | (simp <;> omega) | rfl | assumption) (by omega) hx7 hx6 (by omega) (by omega) (by omega) (by omega) (by omega) (by omega)); rw [hx8] at h0; exact h0)⟩ ?_
    refine AW.cond_f (.tmp (Look.of rfl)) ?_
    refine AW.skip ?_
    obtain ⟨k5, m6, z7, hx9, hx10, hx11, hx12, hF7⟩ := (X_Clock z4 (by first | omega | with_reducible assumption | (simp <;> omega) | rfl | assumption))
    refine AW.rgs [.no, .call [0] (.e (.agg [.d (D.sl (dI .i64 k5) m6)])) [(0, some (72, .ds [D.sl (dI .u8 z7) (List.length z7)]))] 1 [] none, .no, .no] [3, 4, 15, 16, 17] [3] (P := (_)) (l' := [(3, .e (.c (.d (D.lit (.int .u8 dr))))), (4, .e (.c (.d (D.lit (.int .u8 mo))))), (15, iV (1 + pe)), (16, iV (ti % 20)), (17, rV 3 0)]) (g' := [(3, some (24, .ds [D.sl (dI .i64 k5) m6]))]) (nx' := 4) (by kernel_rfl) hF7 ?_
    refine AW.rgs [.call [] (.tup [.agg [iC 1, iC 1], iE 0]) [] 0 [] none, .no, .no, .no, .no, .no, .no] [3, 4, 15, 16, 17, 18] [3, 4] (P := (_)) (l' := [(3, .e (.c (.d (D.lit (.int .u8 dr))))), (4, .e (.c (.d (D.lit (.int .u8 mo))))), (15, iV (1 + pe)), (16, iV (ti % 20)), (17, rV 3 0), (18, rV 4 0)]) (g' := [(3, some (24, .ds [D.sl (dI .i64 k5) m6])), (4, some (27, .ds [iD 1, iD 1]))]) (nx' := 5) (by kernel_rfl) (L_mk1) ?_
    rcases Bool.eq_false_or_eq_true (stB k5 m6 (1 * 65536) 0 (1 + pe) (1 * (1 + pe) * 65536) (1 * (1 + pe) * dr) (1 * 65536 * 5) (fq + 1)) with hx13 | hx13
    · have hx14 : stB k5 m6 (1 * 65536) 0 (1 + pe) (1 * (1 + pe) * 65536) (1 * (1 + pe) * (dr + mo)) (1 * 65536 * 6) (fq + 1) = true := st_weaker hx13 (Int.mul_le_mul_of_nonneg_left (by omega) (by omega)) (by omega)
      refine AW.rgs [.no, .no, .no, .w, .no, .no, .no, .w, .call [] (bV true) [] 0 [] none, .no, .no, .no, .no, .no, .w, .no, .w, .w, .no, .no, .no, .w, .call [] (bV true) [] 0 [] none, .no, .no] [10] [] (P := ((-9223372036854775808) ≤ dr ∧ dr ≤ 9223372036854775807) ∧ ((-9223372036854775808) ≤ ((ti % 20) * (1 + pe)) ∧ ((ti % 20) * (1 + pe)) ≤ 9223372036854775807) ∧ (Fun 27 [.agg [.d (D.sl (dI .i64 k5) m6)], .agg [iC 1, iC 1], iE dr, iE 5, iE (1 + pe), iE 0, iE ((ti % 20) * (1 + pe))] (toG []) 0 (bV true) (toG []) 0) ∧ ((-9223372036854775808) ≤ dr ∧ dr ≤ 9223372036854775807) ∧ ((-9223372036854775808) ≤ mo ∧ mo ≤ 9223372036854775807) ∧ ((-9223372036854775808) ≤ (dr + mo) ∧ (dr + mo) ≤ 9223372036854775807) ∧ ((-9223372036854775808) ≤ ((ti % 20) * (1 + pe)) ∧ ((ti % 20) * (1 + pe)) ≤ 9223372036854775807) ∧ (Fun 27 [.agg [.d (D.sl (dI .i64 k5) m6)], .agg [iC 1, iC 1], iE (dr + mo), iE 6, iE (1 + pe), iE 0, iE ((ti % 20) * (1 + pe))] (toG []) 0 (bV true) (toG []) 0)) (l' := [(10, bV true)]) (g' := []) (nx' := 5) (by kernel_rfl) ⟨⟨by omega, by omega⟩, ⟨by omega, by omega⟩, (by have h0 := (Y_keeps k5 m6 fq 1 1 0 (1 + pe) ((ti % 20) * (1 + pe)) dr 5 (by omega) (by omega) hx9 (by kernel_rfl) (by omega) (by omega) (by omega) (by omega) (by omega) (by omega)); rw [hx13] at h0; exact h0), ⟨by omega, by omega⟩, ⟨by omega, by omega⟩, ⟨by omega, by omega⟩, ⟨by omega, by omega⟩, (by have h0 := (Y_keeps k5 m6 fq 1 1 0 (1 + pe) ((ti % 20) * (1 + pe)) (dr + mo) 6 (by omega) (by omega) hx9 (by kernel_rfl) (by omega) (by omega) (by omega) (by omega) (by omega) (by omega)); rw [hx14] at h0; exact h0)⟩ ?_
      refine AW.ret ?_
      exact EndP.of (.inr rfl) [] (P := (true = true)) (by kernel_rfl) rfl
    · refine AW.rgs [.no, .no, .no, .w, .no, .no, .no, .w, .call [] (bV false) [] 0 [] none, .no, .no, .no, .no] [10] [] (P := ((-9223372036854775808) ≤ dr ∧ dr ≤ 9223372036854775807) ∧ ((-9223372036854775808) ≤ ((ti % 20) * (1 + pe)) ∧ ((ti % 20) * (1 + pe)) ≤ 9223372036854775807) ∧ (Fun 27 [.agg [.d (D.sl (dI .i64 k5) m6)], .agg [iC 1, iC 1], iE dr, iE 5, iE (1 + pe), iE 0, iE ((ti % 20) * (1 + pe))] (toG []) 0 (bV false) (toG []) 0)) (l' := [(10, bV true)]) (g' := []) (nx' := 5) (by kernel_rfl) ⟨⟨by omega, by omega⟩, ⟨by omega, by omega⟩, (by have h0 := (Y_keeps k5 m6 fq 1 1 0 (1 + pe) ((ti % 20) * (1 + pe)) dr 5 (by omega) (by omega) hx9 (by kernel_rfl) (by omega) (by omega) (by omega) (by omega) (by omega) (by omega)); rw [hx13] at h0; exact h0)⟩ ?_
      refine AW.ret ?_
      exact EndP.of (.inr rfl) [] (P := (true = true)) (by kernel_rfl) rfl
  · refine AW.rgs [.call [] (bV false) [] 0 [] none, .no] [0, 1, 2, 3, 4, 21] [] (P := (Fun 9 [] (toG []) 0 (bV false) (toG []) 0)) (l' := [(0, sV .u8 sd m), (1, .e (.c (.d (D.lit (.int .u8 pe))))), (2, .e (.c (.d (D.lit (.int .u8 ti))))), (3, .e (.c (.d (D.lit (.int .u8 dr))))), (4, .e (.c (.d (D.lit (.int .u8 mo))))), (21, bV true)]) (g' := []) (nx' := 0) (by kernel_rfl) (by have h0 := (L_sane); rw [hx1] at h0; exact h0) ?_
    refine AW.cond_t (.tmp (Look.of rfl)) ?_
    obtain ⟨fq, hfq⟩ : ∃ fq : Nat, ti % 20 = ((fq : Nat) : Int) ∧ fq ≤ 19 := ⟨(ti % 20).toNat, by omega, by omega⟩
    have hfm : ti % 20 * (1 + pe) = ((fq : Nat) : Int) * (1 + pe) := by rw [hfq.1]
    have hfb : 0 ≤ ti % 20 * (1 + pe) ∧ ti % 20 * (1 + pe) ≤ 5120 := by rw [hfm]; exact mp_in (by omega) (by omega)
    refine AW.rgs [.no] [10] [] (P := True) (l' := [(10, bV false)]) (g' := []) (nx' := 0) (by kernel_rfl) trivial ?_
    refine AW.ret ?_
    exact EndP.of (.inr rfl) [] (P := (true = false)) (by kernel_rfl) (by first | rfl | assumption | exact decide_eq_true (by omega) | exact decide_eq_false (by omega) | (simp; omega))

theorem Sl.max {k : IntKind} {w : World} {a : Option Addr} {len cap : Nat} {l : List Int} (h : Sl k w a len cap l) : List.length l ≤ 9223372036854775807 := by
  obtain ⟨h1, h2, h3, _⟩ := h
  unfold maxLen at h3
  omega

theorem L_Std_walk {w : World} {pe : Int} {ti : Int} {dr : Int} {mo : Int} {xa0 : Option Addr} {xl0 xc0 : Nat} {sd : List Int} (hs0 : Sl .u8 w xa0 xl0 xc0 sd) (hi_pe : 0 ≤ pe ∧ pe ≤ 255) (hi_ti : 0 ≤ ti ∧ ti ≤ 255) (hi_dr : 0 ≤ dr ∧ dr ≤ 255) (hi_mo : 0 ≤ mo ∧ mo ≤ 255) : Calls Try.prog 6 #[.slice xa0 xl0 xc0, .int .u8 pe, .int .u8 ti, .int .u8 dr, .int .u8 mo] w fun e w' => e = .returned (.bool true) ∧ Below w.heap.size w w' :=
  (L_Std sd (List.length sd) pe ti dr mo rfl hs0.max (Byt.of fun x hx => bounds_u8 (hs0.wf x hx)) hi_pe hi_ti hi_dr hi_mo).walk ⟨repE_sl hs0, repE_lit rfl, repE_lit rfl, repE_lit rfl, repE_lit rfl, trivial⟩

end Go.Proofs.Yteggelophhpnfaa
