/- Laws of rate conversion. No statement is proved here. -/
import Derived.Test.YtpikmjikoifjeaaL15M
namespace Go.Proofs.Ytpikmjikoifjeaa
open Go.ChangeShapes Go.WideShapes Go.ChangeAt Go.RowKit
set_option linter.unusedVariables false
set_option linter.unusedSimpArgs false


theorem left_all {n d a p f : Int} (h : PhV n d a p f) {W : Nat} (hW : W ≤ 100) (hd : d ≤ 50 * n) : W ≤ iqV f (stp n a) (d * 65536) (leftV W f (stp n a) (d * 65536) 65536) ∧ leftV W f (stp n a) (d * 65536) 65536 ≤ 65536 := by
  have hb := h.b
  have hst := stp_in hb.1 hb.2.2.1
  have hP : (0 : Int) < d * 65536 := by omega
  have hs1 : n * 61440 ≤ stp n a := by
    unfold stp
    exact Int.mul_le_mul_of_nonneg_left (by omega) (by omega)
  have hWP : ((W : Nat) : Int) * (d * 65536) ≤ 100 * (d * 65536) := Int.mul_le_mul_of_nonneg_right (by omega) (by omega)
  have hWP0 : 0 ≤ ((W : Nat) : Int) * (d * 65536) := Int.mul_nonneg (by omega) (by omega)
  have hle : leftV W f (stp n a) (d * 65536) 65536 ≤ 65536 := by unfold leftV; split <;> omega
  refine ⟨?_, hle⟩
  have key : ((W : Nat) : Int) * (d * 65536) ≤ mvV f (stp n a) (leftV W f (stp n a) (d * 65536) 65536) ∨ W = 0 := by
    by_cases h0 : ((W : Nat) : Int) * (d * 65536) - f ≤ 0
    · by_cases hw : W = 0
      · exact .inr hw
      · have := Int.mul_le_mul_of_nonneg_right (show (1 : Int) ≤ ((W : Nat) : Int) by omega) (show 0 ≤ d * 65536 by omega)
        omega
    · left
      have hq : (((W : Nat) : Int) * (d * 65536) - f + stp n a - 1) / stp n a ≤ 5400 := by
        have : (((W : Nat) : Int) * (d * 65536) - f + stp n a - 1) / stp n a < 5401 := by
          rw [Int.ediv_lt_iff_lt_mul (by omega)]; omega
        omega
      have hq0 : 0 ≤ (((W : Nat) : Int) * (d * 65536) - f + stp n a - 1) / stp n a := Int.ediv_nonneg (by omega) (by omega)
      have e : ((leftV W f (stp n a) (d * 65536) 65536 : Nat) : Int) = (((W : Nat) : Int) * (d * 65536) - f + stp n a - 1) / stp n a := by
        unfold leftV
        rw [if_neg h0]; omega
      unfold mvV
      rw [e]
      have h1 := Int.mul_ediv_add_emod (((W : Nat) : Int) * (d * 65536) - f + stp n a - 1) (stp n a)
      have h2 := Int.emod_lt_of_pos (((W : Nat) : Int) * (d * 65536) - f + stp n a - 1) (show 0 < stp n a by omega)
      rw [Int.mul_comm] at h1
      omega
  rcases key with key | key
  · have h1 : ((W : Nat) : Int) ≤ mvV f (stp n a) (leftV W f (stp n a) (d * 65536) 65536) / (d * 65536) := by
      rw [Int.le_ediv_iff_mul_le hP]; exact key
    unfold iqV; omega
  · omega
theorem left_pos {n d a p f : Int} (h : PhV n d a p f) {W : Nat} (hW : W ≤ 100) (hp : p ≤ 1000) {k : Nat} (hk : leftV W f (stp n a) (d * 65536) 65536 = k) : p + mvV f (stp n a) k / (d * 65536) ≤ 1125899906842624 := by
  have hb := h.b
  have hst := stp_in hb.1 hb.2.2.1
  have hle : k ≤ 65536 := by rw [← hk]; unfold leftV; split <;> omega
  have h2 := mv_in (f := f) (s := stp n a) (i := k) (by omega) (by omega) (by omega)
  have h3 := quo_in h2.1 (show 0 < d * 65536 by omega)
  have h4 : mvV f (stp n a) k / (d * 65536) < 60000000000 := by rw [Int.ediv_lt_iff_lt_mul (by omega)]; omega
  omega

theorem Q_Finish_j (ch W : Nat) (n d a p f : Int) (l : List Int) (q k : Nat) (j : Nat) (hq : List.length l = q) (hv : BV ch W l) (hp : PhV n d a p f) (hk : k ≤ 65536) (hjj : leftV W f (stp n a) (d * 65536) k = j) (hb : (p + ((mvV f (stp n a) j) / (d * 65536))) ≤ 1125899906842624) : Fun 27 [.agg [iC ((ch : Nat) : Int), iC n, iC d, iC a, iC p, iC f, .d (D.sl (dI .i32 l) q)], iE ((k : Nat) : Int)] (toG []) 0 (.tup [.agg [iC ((ch : Nat) : Int), .own 0 0 (j * ch) 1 true], .agg [iC ((ch : Nat) : Int), iC n, iC d, iC a, iC (p + ((mvV f (stp n a) j) / (d * 65536))), iC ((mvV f (stp n a) j) % (d * 65536)), .own 1 0 (q - ((goneV W f (stp n a) (d * 65536) j) * ch)) 1 true], iE 0]) (toG [(0, some (21, .ds (dI .i32 (prV ch W l f (stp n a) (d * 65536) j)))), (1, some (21, .ds (dI .i32 (List.drop ((goneV W f (stp n a) (d * 65536) j) * ch) l))))]) 2 := by
  subst hjj
  exact Q_Finish ch W n d a p f l q k hq hv hp hk hb

set_option maxHeartbeats 4000000 in
set_option maxRecDepth 100000 in
theorem Q_ResampleCounts (sd : List Int) (m : Nat) (nn : Int) (hm : List.length sd = m) (hb : m ≤ 9223372036854775807) (hy : Byt sd) (ht : 0 ≤ nn ∧ nn ≤ 255) : Fun 8 [.c (.d (D.sl (dI .u8 sd) m)), .c (.d (D.lit (.int .u8 nn)))] (toG []) 0 (bV true) (toG []) 0 := by
  refine Fun.mk (n := 94) Try.func8 rfl rfl (Nat.le_of_ble_eq_true rfl) ?_
  intro cx hcx
  refine AW.rgs [.no] [0, 1] [] (P := True) (l' := [(0, sV .u8 sd m), (1, .e (.c (.d (D.lit (.int .u8 nn)))))]) (g' := []) (nx' := 0) (by kernel_rfl) trivial ?_
  refine AW.seq ?_
  refine AW.rgs [.call [] (bV true) [] 0 [] none, .no] [0, 1, 18] [] (P := (_)) (l' := [(0, sV .u8 sd m), (1, .e (.c (.d (D.lit (.int .u8 nn))))), (18, bV false)]) (g' := []) (nx' := 0) (by kernel_rfl) (Q_sane) ?_
  refine AW.cond_f (.tmp (Look.of rfl)) ?_
  refine AW.skip ?_
  obtain ⟨d1, hx1, hx2, hF1⟩ := (X_New sd m (by omega) (by omega) (by first | omega | with_reducible assumption | (simp <;> omega) | rfl | assumption))
  refine AW.rgs [.no, .call [] (rV 0 0) [(0, some (71, .ds [D.sl (dI .u8 d1) (List.length d1)]))] 1 [] none, .no] [1, 5] [0] (P := (_)) (l' := [(1, .e (.c (.d (D.lit (.int .u8 nn))))), (5, rV 0 0)]) (g' := [(0, some (71, .ds [D.sl (dI .u8 d1) (List.length d1)]))]) (nx' := 1) (by kernel_rfl) hF1 ?_
  obtain ⟨n2, d3, a4, p5, f6, l7, q8, W9, ch10, z11, hx3, hx4, hx5, hx6, hx7, hx8, hF11⟩ := (X_made15 d1 (by first | omega | with_reducible assumption | (simp <;> omega) | rfl | assumption))
  refine AW.rgs [.no, .call [0] (.e (.agg [iC ((ch10 : Nat) : Int), iC n2, iC d3, iC a4, iC p5, iC f6, .d (D.sl (dI .i32 l7) q8)])) [(0, some (71, .ds [D.sl (dI .u8 z11) (List.length z11)]))] 1 [] none, .no, .no] [1, 6] [1] (P := (_)) (l' := [(1, .e (.c (.d (D.lit (.int .u8 nn))))), (6, rV 1 0)]) (g' := [(1, some (28, .ds [iD ↑ch10, iD n2, iD d3, iD a4, iD p5, iD f6, D.sl (dI .i32 l7) q8]))]) (nx' := 2) (by kernel_rfl) hF11 ?_
  refine AW.seq ?_
  by_cases hx9 : ((50 * n2) < d3)
  · have hb6 : (1 ≤ n2 ∧ n2 ≤ 768000) ∧ (1 ≤ d3 ∧ d3 ≤ 768000) ∧ 0 ≤ p5 := by have h9 := PhV.b (show (PhV n2 d3 a4 p5 f6) by with_reducible assumption); omega
    refine AW.rgs [.no, .no, .no, .no, .no, .no, .no, .no, .w, .b true] [1, 6, 32] [1] (P := ((-9223372036854775808) ≤ (50 * n2) ∧ (50 * n2) ≤ 9223372036854775807) ∧ (((50 * n2) < d3))) (l' := [(1, .e (.c (.d (D.lit (.int .u8 nn))))), (6, rV 1 0), (32, bV true)]) (g' := [(1, some (28, .ds [iD ↑ch10, iD n2, iD d3, iD a4, iD p5, iD f6, D.sl (dI .i32 l7) q8]))]) (nx' := 2) (by kernel_rfl) ⟨⟨by omega, by omega⟩, (by omega)⟩ ?_
    refine AW.cond_t (.tmp (Look.of rfl)) ?_
    refine AW.rgs [.no] [4] [] (P := True) (l' := [(4, bV true)]) (g' := []) (nx' := 2) (by kernel_rfl) trivial ?_
    refine AW.ret ?_
    exact EndP.of (.inr rfl) [] (P := (true = true)) (by kernel_rfl) rfl
  · have hb6 : (1 ≤ n2 ∧ n2 ≤ 768000) ∧ (1 ≤ d3 ∧ d3 ≤ 768000) ∧ 0 ≤ p5 := by have h9 := PhV.b (show (PhV n2 d3 a4 p5 f6) by with_reducible assumption); omega
    refine AW.rgs [.no, .no, .no, .no, .no, .no, .no, .no, .w, .b false] [1, 6, 32] [1] (P := ((-9223372036854775808) ≤ (50 * n2) ∧ (50 * n2) ≤ 9223372036854775807) ∧ (¬ ((50 * n2) < d3))) (l' := [(1, .e (.c (.d (D.lit (.int .u8 nn))))), (6, rV 1 0), (32, bV false)]) (g' := [(1, some (28, .ds [iD ↑ch10, iD n2, iD d3, iD a4, iD p5, iD f6, D.sl (dI .i32 l7) q8]))]) (nx' := 2) (by kernel_rfl) ⟨⟨by omega, by omega⟩, (by omega)⟩ ?_
    refine AW.cond_f (.tmp (Look.of rfl)) ?_
    refine AW.skip ?_
    obtain ⟨fq, hfq⟩ : ∃ fq : Nat, nn % 30 = ((fq : Nat) : Int) ∧ fq ≤ 29 := ⟨(nn % 30).toNat, by omega, by omega⟩
    refine AW.rgs [.no, .i ((fq : Nat) : Int), .w, .no] [6, 7] [1] (P := (¬ (30 : Int) = 0) ∧ (((Int.tmod nn 30) : Int) = ((fq : Nat) : Int)) ∧ ((-9223372036854775808) ≤ ((fq : Nat) : Int) ∧ ((fq : Nat) : Int) ≤ 9223372036854775807)) (l' := [(6, rV 1 0), (7, iV ↑fq)]) (g' := [(1, some (28, .ds [iD ↑ch10, iD n2, iD d3, iD a4, iD p5, iD f6, D.sl (dI .i32 l7) q8]))]) (nx' := 2) (by kernel_rfl) ⟨(by omega), (by rw [Int.tmod_eq_emod_of_nonneg (by omega)]; omega), ⟨by omega, by omega⟩⟩ ?_
    refine AW.rgs [.no, .call [] (iV ((W9 : Nat) : Int)) [] 0 [] none, .no, .wi (((W9 + fq) : Nat) : Int), .no] [6, 7, 8] [1] (P := (_) ∧ ((-9223372036854775808) ≤ (((W9 : Nat) : Int) + ((fq : Nat) : Int)) ∧ (((W9 : Nat) : Int) + ((fq : Nat) : Int)) ≤ 9223372036854775807) ∧ (((((W9 : Nat) : Int) + ((fq : Nat) : Int)) : Int) = (((W9 + fq) : Nat) : Int))) (l' := [(6, rV 1 0), (7, iV ↑fq), (8, iV (((W9 + fq) : Nat) : Int))]) (g' := [(1, some (28, .ds [iD ↑ch10, iD n2, iD d3, iD a4, iD p5, iD f6, D.sl (dI .i32 l7) q8]))]) (nx' := 2) (by kernel_rfl) ⟨(Q_Waiting ch10 W9 n2 d3 a4 p5 f6 l7 q8 (by omega) (by first | omega | with_reducible assumption | (simp <;> omega) | rfl | assumption) (by first | omega | with_reducible assumption | (simp <;> omega) | rfl | assumption)), ⟨by omega, by omega⟩, (by omega)⟩ ?_
    have hx10 : (((mkF f6 (stp n2 a4) (d3 * 65536) (((W9 + fq) : Nat) : Int)) ≤ 65536) ∧ ((needV f6 (stp n2 a4) (d3 * 65536) (mkF f6 (stp n2 a4) (d3 * 65536) (((W9 + fq) : Nat) : Int))) ≤ (((W9 + fq) : Nat) : Int))) := (by have h9 := @mkF_need f6 (stp n2 a4) (d3 * 65536) (((W9 + fq) : Nat) : Int) (by omega); exact ⟨h9.2, h9.1⟩)
    refine AW.rgs [.no, .no, .no, .call [] (.tup [iE (((mkF f6 (stp n2 a4) (d3 * 65536) (((W9 + fq) : Nat) : Int)) : Nat) : Int), iE 0]) [] 0 [] none, .no, .no, .no, .no, .no] [6, 7, 8, 9] [1] (P := (_)) (l' := [(6, rV 1 0), (7, iV ↑fq), (8, iV (((W9 + fq) : Nat) : Int)), (9, iV (((mkF f6 (stp n2 a4) (d3 * 65536) (((W9 + fq) : Nat) : Int)) : Nat) : Int))]) (g' := [(1, some (28, .ds [iD ↑ch10, iD n2, iD d3, iD a4, iD p5, iD f6, D.sl (dI .i32 l7) q8]))]) (nx' := 2) (by kernel_rfl) (P_rMake n2 d3 a4 p5 f6 (((W9 + fq) : Nat) : Int) (by first | omega | with_reducible assumption | (simp <;> omega) | rfl | assumption) (by omega)) ?_
    have hx11 : ((List.length (waveL 4 ch10 0 fq)) = (fq * ch10)) := waveL_len (4 : Nat) ch10 (0 : Nat) fq
    have hx12 : (BV ch10 fq (waveL 4 ch10 0 fq)) := waveL_BV (by omega) (by omega) (by omega)
    obtain ⟨o212, l213, k214, W215, r216, p217, f218, hx13, hx14, hx15, hx16, hx17, hx18, hx19, hx20, hx21, hx22, hF18⟩ := (X_Convert ch10 W9 fq n2 d3 a4 p5 f6 l7 q8 (waveL 4 ch10 0 fq) (fq * ch10) (by omega) (by first | omega | with_reducible assumption | (simp <;> omega) | rfl | assumption) (by first | omega | with_reducible assumption | (simp <;> omega) | rfl | assumption) (by first | omega | with_reducible assumption | (simp <;> omega) | rfl | assumption) (by first | omega | with_reducible assumption | (simp <;> omega) | rfl | assumption) (by omega) (by omega))
    refine AW.rgs [.no, .no, .no, .no, .call [] (.e (.agg [iC ((ch10 : Nat) : Int), .own 0 0 (fq * ch10) 1 true])) [(0, some (21, .ds (dI .i32 (waveL 4 ch10 0 fq))))] 1 [] none, .call [] (.tup [.agg [iC ((ch10 : Nat) : Int), .own 0 0 (k214 * ch10) 1 true], .agg [iC ((ch10 : Nat) : Int), iC n2, iC d3, iC a4, iC p217, iC f218, .own 1 0 r216 1 true], iE 0]) [(0, some (21, .ds (dI .i32 o212))), (1, some (21, .ds (dI .i32 l213)))] 2 [none] none, .no, .no, .no, .no, .no, .no, .no, .no, .no] [6, 8, 9, 11, 12, 13] [1, 3, 4, 5, 6] (P := (_) ∧ ((dI .i32 (waveL 4 ch10 0 fq)).length = (fq * ch10) * 1) ∧ (noSlPV (.tup [.agg [iC ((ch10 : Nat) : Int), .own 0 0 (k214 * ch10) 1 true], .agg [iC ((ch10 : Nat) : Int), iC n2, iC d3, iC a4, iC p217, iC f218, .own 1 0 r216 1 true], iE 0]) = true) ∧ ((dI .i32 o212).all noSlD = true) ∧ ((dI .i32 l213).all noSlD = true) ∧ (_)) (l' := [(6, rV 1 0), (8, iV (((W9 + fq) : Nat) : Int)), (9, iV (((mkF f6 (stp n2 a4) (d3 * 65536) (((W9 + fq) : Nat) : Int)) : Nat) : Int)), (11, rV 5 0), (12, rV 6 0), (13, iV 0)]) (g' := [(1, some (28, .ds [iD ↑ch10, iD n2, iD d3, iD a4, iD p5, iD f6, D.sl (dI .i32 l7) q8])), (3, some (21, .ds (dI .i32 o212))), (4, some (21, .ds (dI .i32 l213))), (5, some (30, .cs [iC ↑ch10, .own 3 0 (k214 * ch10) 1 true])), (6, some (28, .cs [iC ↑ch10, iC n2, iC d3, iC a4, iC p217, iC f218, .own 4 0 r216 1 true]))]) (nx' := 7) (by kernel_rfl) ⟨(G_Wave 4 ch10 0 fq (by omega) (by omega) (by omega) (by omega) (by omega)), (by first | omega | (simp only [prV_len, rwV_len, dI_len, List.length_append, List.length_cons, List.length_nil, List.length_take, List.length_drop, List.length_replicate, List.length_set, List.length_map, List.length_reverse, Nat.mul_one] <;> omega) | rfl), rfl, (by first | exact dI_ns _ _ | rfl), (by first | exact dI_ns _ _ | rfl), hF18⟩ ?_
    have hp11 : (PhV n2 d3 a4 p217 f218) := by with_reducible assumption
    have hla := left_all (W := W215) hp11 (by omega) (by omega)
    obtain ⟨jq, hjq⟩ : ∃ jq : Nat, leftV W215 f218 (stp n2 a4) (d3 * 65536) 65536 = jq := ⟨_, rfl⟩
    rw [hjq] at hla
    have hjl : jq ≤ 65536 := hla.2
    have hjp := left_pos (W := W215) hp11 (by omega) (by omega) hjq
    have hjg : goneV W215 f218 (stp n2 a4) (d3 * 65536) jq = W215 := Nat.min_eq_right hla.1
    refine AW.rgs [.no, .call [] (.tup [.agg [iC ((ch10 : Nat) : Int), .own 0 0 (jq * ch10) 1 true], .agg [iC ((ch10 : Nat) : Int), iC n2, iC d3, iC a4, iC (p217 + ((mvV f218 (stp n2 a4) jq) / (d3 * 65536))), iC ((mvV f218 (stp n2 a4) jq) % (d3 * 65536)), .own 1 0 (r216 - ((goneV W215 f218 (stp n2 a4) (d3 * 65536) jq) * ch10)) 1 true], iE 0]) [(0, some (21, .ds (dI .i32 (prV ch10 W215 l213 f218 (stp n2 a4) (d3 * 65536) jq)))), (1, some (21, .ds (dI .i32 (List.drop ((goneV W215 f218 (stp n2 a4) (d3 * 65536) jq) * ch10) l213))))] 2 [none] none, .no, .no, .no, .no, .no, .no, .no, .no, .no] [6, 8, 9, 11, 12, 13, 15, 16] [1, 3, 4, 5, 6, 8, 10] (P := ((dI .i32 l213).length = r216 * 1) ∧ (noSlPV (.tup [.agg [iC ((ch10 : Nat) : Int), .own 0 0 (jq * ch10) 1 true], .agg [iC ((ch10 : Nat) : Int), iC n2, iC d3, iC a4, iC (p217 + ((mvV f218 (stp n2 a4) jq) / (d3 * 65536))), iC ((mvV f218 (stp n2 a4) jq) % (d3 * 65536)), .own 1 0 (r216 - ((goneV W215 f218 (stp n2 a4) (d3 * 65536) jq) * ch10)) 1 true], iE 0]) = true) ∧ ((dI .i32 (prV ch10 W215 l213 f218 (stp n2 a4) (d3 * 65536) jq)).all noSlD = true) ∧ ((dI .i32 (List.drop ((goneV W215 f218 (stp n2 a4) (d3 * 65536) jq) * ch10) l213)).all noSlD = true) ∧ (_)) (l' := [(6, rV 1 0), (8, iV (((W9 + fq) : Nat) : Int)), (9, iV (((mkF f6 (stp n2 a4) (d3 * 65536) (((W9 + fq) : Nat) : Int)) : Nat) : Int)), (11, rV 5 0), (12, rV 6 0), (13, iV 0), (15, rV 10 0), (16, iV 0)]) (g' := [(1, some (28, .ds [iD ↑ch10, iD n2, iD d3, iD a4, iD p5, iD f6, D.sl (dI .i32 l7) q8])), (3, some (21, .ds (dI .i32 o212))), (4, some (21, .ds (dI .i32 l213))), (5, some (30, .cs [iC ↑ch10, .own 3 0 (k214 * ch10) 1 true])), (6, some (28, .cs [iC ↑ch10, iC n2, iC d3, iC a4, iC p217, iC f218, .own 4 0 r216 1 true])), (8, some (21, .ds (dI .i32 (List.drop ((goneV W215 f218 (stp n2 a4) (d3 * 65536) jq) * ch10) l213)))), (10, some (28, .cs [iC ↑ch10, iC n2, iC d3, iC a4, iC (p217 + ((mvV f218 (stp n2 a4) jq) / (d3 * 65536))), iC ((mvV f218 (stp n2 a4) jq) % (d3 * 65536)), .own 8 0 (r216 - ((goneV W215 f218 (stp n2 a4) (d3 * 65536) jq) * ch10)) 1 true]))]) (nx' := 11) (by kernel_rfl) ⟨(by first | omega | (simp only [prV_len, rwV_len, dI_len, List.length_append, List.length_cons, List.length_nil, List.length_take, List.length_drop, List.length_replicate, List.length_set, List.length_map, List.length_reverse, Nat.mul_one] <;> omega) | rfl), rfl, (by first | exact dI_ns _ _ | rfl), (by first | exact dI_ns _ _ | rfl), (Q_Finish_j ch10 W215 n2 d3 a4 p217 f218 l213 r216 65536 jq (by omega) (by first | omega | with_reducible assumption | (simp <;> omega) | rfl | assumption) (by first | omega | with_reducible assumption | (simp <;> omega) | rfl | assumption) (by omega) (by first | omega | with_reducible assumption | (simp <;> omega) | rfl | assumption) (by first | omega | with_reducible assumption | (simp <;> omega) | rfl | assumption))⟩ ?_
    have hx23 : BV ch10 (W215 - goneV W215 f218 (stp n2 a4) (d3 * 65536) jq) (List.drop ((goneV W215 f218 (stp n2 a4) (d3 * 65536) jq) * ch10) l213) := drop_BV (by with_reducible assumption) (by omega)
    have hx24 : PhV n2 d3 a4 (p217 + mvV f218 (stp n2 a4) jq / (d3 * 65536)) (mvV f218 (stp n2 a4) jq % (d3 * 65536)) := (by have h8 := hp11.b; have h7 := mv_in (f := f218) (s := stp n2 a4) (i := jq) (by omega) (by have h6 := stp_in h8.1 h8.2.2.1; omega) (by omega); have h5 := quo_in h7.1 (show 0 < (d3 * 65536) by omega); exact hp11.mk' (by omega) (by omega))
    refine AW.rgs [.no, .b true, .no, .no, .b true, .no, .no, .no, .call [] (iV ((k214 : Nat) : Int)) [] 0 [none] none, .no, .b true, .no, .no, .no, .call [] (iV (((W215 - (goneV W215 f218 (stp n2 a4) (d3 * 65536) jq)) : Nat) : Int)) [] 0 [none] none, .b true, .no, .no, .no, .no, .no, .no, .no, .no, .w, .no, .no, .call [] (iV ((W215 : Nat) : Int)) [] 0 [none] none, .w, .b true, .no, .no] [4] [] (P := (((0 : Int) = 0)) ∧ (((0 : Int) = 0)) ∧ ((dI .i32 o212).length = (k214 * ch10) * 1) ∧ (noSlPV (iV ((k214 : Nat) : Int)) = true) ∧ (_) ∧ ((((k214 : Nat) : Int) = (((mkF f6 (stp n2 a4) (d3 * 65536) (((W9 + fq) : Nat) : Int)) : Nat) : Int))) ∧ ((dI .i32 (List.drop ((goneV W215 f218 (stp n2 a4) (d3 * 65536) jq) * ch10) l213)).length = (r216 - ((goneV W215 f218 (stp n2 a4) (d3 * 65536) jq) * ch10)) * 1) ∧ (noSlPV (iV (((W215 - (goneV W215 f218 (stp n2 a4) (d3 * 65536) jq)) : Nat) : Int)) = true) ∧ (_) ∧ (((((W215 - (goneV W215 f218 (stp n2 a4) (d3 * 65536) jq)) : Nat) : Int) = 0)) ∧ ((-9223372036854775808) ≤ (p217 - p5) ∧ (p217 - p5) ≤ 9223372036854775807) ∧ ((dI .i32 l213).length = r216 * 1) ∧ (noSlPV (iV ((W215 : Nat) : Int)) = true) ∧ (_) ∧ ((-9223372036854775808) ≤ ((((W9 + fq) : Nat) : Int) - ((W215 : Nat) : Int)) ∧ ((((W9 + fq) : Nat) : Int) - ((W215 : Nat) : Int)) ≤ 9223372036854775807) ∧ (((p217 - p5) = ((((W9 + fq) : Nat) : Int) - ((W215 : Nat) : Int))))) (l' := [(4, bV true)]) (g' := []) (nx' := 11) (by kernel_rfl) ⟨(by omega), (by omega), (by first | omega | (simp only [prV_len, rwV_len, dI_len, List.length_append, List.length_cons, List.length_nil, List.length_take, List.length_drop, List.length_replicate, List.length_set, List.length_map, List.length_reverse, Nat.mul_one] <;> omega) | rfl), rfl, (G_rFrames ch10 k214 o212 (k214 * ch10) (by omega) (by first | omega | with_reducible assumption | (simp <;> omega) | rfl | assumption)), (by omega), (by first | omega | (simp only [prV_len, rwV_len, dI_len, List.length_append, List.length_cons, List.length_nil, List.length_take, List.length_drop, List.length_replicate, List.length_set, List.length_map, List.length_reverse, Nat.mul_one] <;> omega) | rfl), rfl, (Q_Waiting ch10 (W215 - (goneV W215 f218 (stp n2 a4) (d3 * 65536) jq)) n2 d3 a4 (p217 + ((mvV f218 (stp n2 a4) jq) / (d3 * 65536))) ((mvV f218 (stp n2 a4) jq) % (d3 * 65536)) (List.drop ((goneV W215 f218 (stp n2 a4) (d3 * 65536) jq) * ch10) l213) (r216 - ((goneV W215 f218 (stp n2 a4) (d3 * 65536) jq) * ch10)) (by first | omega | with_reducible assumption | (simp <;> omega) | rfl | assumption) (by first | omega | with_reducible assumption | (simp <;> omega) | rfl | assumption) (by first | omega | with_reducible assumption | (simp <;> omega) | rfl | assumption)), (by omega), ⟨by omega, by omega⟩, (by first | omega | (simp only [prV_len, rwV_len, dI_len, List.length_append, List.length_cons, List.length_nil, List.length_take, List.length_drop, List.length_replicate, List.length_set, List.length_map, List.length_reverse, Nat.mul_one] <;> omega) | rfl), rfl, (Q_Waiting ch10 W215 n2 d3 a4 p217 f218 l213 r216 (by omega) (by first | omega | with_reducible assumption | (simp <;> omega) | rfl | assumption) (by first | omega | with_reducible assumption | (simp <;> omega) | rfl | assumption)), ⟨by omega, by omega⟩, (by omega)⟩ ?_
    refine AW.ret ?_
    exact EndP.of (.inr rfl) [] (P := (true = true)) (by kernel_rfl) rfl

theorem Sl.max {k : IntKind} {w : World} {a : Option Addr} {len cap : Nat} {l : List Int} (h : Sl k w a len cap l) : List.length l ≤ 9223372036854775807 := by
  obtain ⟨h1, h2, h3, _⟩ := h
  unfold maxLen at h3
  omega

theorem resampleCounts_walk {w : World} {nn : Int} {xa0 : Option Addr} {xl0 xc0 : Nat} {sd : List Int} (hs0 : Sl .u8 w xa0 xl0 xc0 sd) (hi_nn : 0 ≤ nn ∧ nn ≤ 255) : Calls Try.prog 8 #[.slice xa0 xl0 xc0, .int .u8 nn] w fun e w' => e = .returned (.bool true) ∧ Below w.heap.size w w' :=
  (Q_ResampleCounts sd (List.length sd) nn rfl hs0.max (Byt.of fun x hx => bounds_u8 (hs0.wf x hx)) hi_nn).walk ⟨repE_sl hs0, repE_lit rfl, trivial⟩

end Go.Proofs.Ytpikmjikoifjeaa
