/- The law of chains of ratios. -/
import Derived.Test.YtkdlpbpaoemcaaaRatioBig
import Derived.Outline
namespace Go.Proofs.Ytkdlpbpaoemcaaa
open Go.ChangeShapes Go.WideShapes Go.ChangeAt Go.RowKit
set_option linter.unusedVariables false
set_option linter.unusedSimpArgs false

theorem cop_dvd {a b c d : Int} (g : Int.gcd a b = 1) (h1 : c ∣ a) (h2 : d ∣ b) : Int.gcd c d = 1 := by
  have e1 := Int.natAbs_dvd_natAbs.2 h1
  have e2 := Int.natAbs_dvd_natAbs.2 h2
  have h : Nat.gcd c.natAbs d.natAbs ∣ Nat.gcd a.natAbs b.natAbs := Nat.dvd_gcd (Nat.dvd_trans (Nat.gcd_dvd_left _ _) e1) (Nat.dvd_trans (Nat.gcd_dvd_right _ _) e2)
  rw [show Nat.gcd a.natAbs b.natAbs = 1 from g] at h
  exact Nat.dvd_one.1 h
theorem cop_mul {a b c : Int} (h1 : Int.gcd a c = 1) (h2 : Int.gcd b c = 1) : Int.gcd (a * b) c = 1 := by
  show Nat.gcd (a * b).natAbs c.natAbs = 1
  rw [Int.natAbs_mul]
  exact Nat.Coprime.mul_left h1 h2
theorem cop_four {a b c d : Int} (h1 : Int.gcd a c = 1) (h2 : Int.gcd a d = 1) (h3 : Int.gcd b c = 1) (h4 : Int.gcd b d = 1) : Int.gcd (a * b) (c * d) = 1 := by
  refine cop_mul ?_ ?_
  · rw [Int.gcd_comm]; exact cop_mul (by rw [Int.gcd_comm]; exact h1) (by rw [Int.gcd_comm]; exact h2)
  · rw [Int.gcd_comm]; exact cop_mul (by rw [Int.gcd_comm]; exact h3) (by rw [Int.gcd_comm]; exact h4)
/-- the product of two small ratios -/
theorem chain_mul {X Y U V : Int} (h1 : ratV X Y = true) (h2 : ratV U V = true) (x3 : X ≤ 65536) (y3 : Y ≤ 65536) (u3 : U ≤ 65536) (v3 : V ≤ 65536) :
    ∃ M1 M2 G : Int, mulV X Y U V = ((M1, M2), 0) ∧ ratV M1 M2 = true ∧ M1 ≤ 4294967296 ∧ 1 ≤ G ∧ M1 * G = X * U ∧ M2 * G = Y * V := by
  obtain ⟨⟨x1, x2⟩, ⟨y1, y2⟩, g1⟩ := ratV_true.1 h1
  obtain ⟨⟨u1, u2⟩, ⟨v1, v2⟩, g2⟩ := ratV_true.1 h2
  have a1 : ((Int.gcd X V : Nat) : Int) ∣ X := Int.gcd_dvd_left ..
  have a2 : ((Int.gcd X V : Nat) : Int) ∣ V := Int.gcd_dvd_right ..
  have a3 : ((Int.gcd U Y : Nat) : Int) ∣ U := Int.gcd_dvd_left ..
  have a4 : ((Int.gcd U Y : Nat) : Int) ∣ Y := Int.gcd_dvd_right ..
  have p1 := gcd_pos (b := V) x1
  have p2 := gcd_pos (b := Y) u1
  have k1 := quot_coprime (b := V) x1
  have k2 := quot_coprime (b := Y) u1
  obtain ⟨q1, q2, q3, q4⟩ := quot_pos x1 v1
  obtain ⟨q5, q6, q7, q8⟩ := quot_pos u1 y1
  unfold mulV
  generalize ((Int.gcd X V : Nat) : Int) = g at *
  generalize ((Int.gcd U Y : Nat) : Int) = h at *
  have b1 := Int.ediv_mul_cancel a1
  have b2 := Int.ediv_mul_cancel a2
  have b3 := Int.ediv_mul_cancel a3
  have b4 := Int.ediv_mul_cancel a4
  have d1 : X / g ∣ X := ⟨g, b1.symm⟩
  have d2 : V / g ∣ V := ⟨g, b2.symm⟩
  have d3 : U / h ∣ U := ⟨h, b3.symm⟩
  have d4 : Y / h ∣ Y := ⟨h, b4.symm⟩
  have l1 := cop_dvd g1 d1 d4
  have l2 := cop_dvd g2 d3 d2
  generalize X / g = A at *
  generalize V / g = B at *
  generalize U / h = C at *
  generalize Y / h = D at *
  have m1 : A * C ≤ 65536 * 65536 := Int.mul_le_mul (by omega) (by omega) (by omega) (by omega)
  have m2 : D * B ≤ 65536 * 65536 := Int.mul_le_mul (by omega) (by omega) (by omega) (by omega)
  have m3 : 0 < A * C := Int.mul_pos (by omega) (by omega)
  have m4 : 0 < D * B := Int.mul_pos (by omega) (by omega)
  have m5 : 0 < g * h := Int.mul_pos (by omega) (by omega)
  have t1 : termP A C = (A * C, true) := by unfold termP; rw [if_pos (by omega)]
  have t2 : termP D B = (D * B, true) := by unfold termP; rw [if_pos (by omega)]
  refine ⟨A * C, D * B, g * h, ?_, ?_, by omega, by omega, ?_, ?_⟩
  · rw [t1, t2]; rfl
  · exact ratV_true.2 ⟨by omega, by omega, cop_four l1 k1 (by exact k2) l2⟩
  · rw [← b1, ← b3]; simp only [Int.mul_assoc, Int.mul_left_comm, Int.mul_comm]
  · rw [← b4, ← b2]; simp only [Int.mul_assoc, Int.mul_left_comm, Int.mul_comm]
theorem sum_div {A B Y : Int} (hY : 1 ≤ Y) : (A + B) / Y - A / Y - B / Y = 0 ∨ (A + B) / Y - A / Y - B / Y = 1 := by
  have e1 : A / Y * Y ≤ A := Int.ediv_mul_le _ (by omega)
  have e2 : B / Y * Y ≤ B := Int.ediv_mul_le _ (by omega)
  have e3 : A < (A / Y + 1) * Y := Int.lt_ediv_add_one_mul_self _ (by omega)
  have e4 : B < (B / Y + 1) * Y := Int.lt_ediv_add_one_mul_self _ (by omega)
  have l1 : A / Y + B / Y ≤ (A + B) / Y := by rw [Int.le_ediv_iff_mul_le (by omega), Int.add_mul]; omega
  have l2 : (A + B) / Y < A / Y + B / Y + 2 := by
    rw [Int.ediv_lt_iff_lt_mul (by omega), show A / Y + B / Y + 2 = (A / Y + 1) + (B / Y + 1) by omega, Int.add_mul]; omega
  omega
theorem chain_le {m X Y U V M1 M2 G : Int} (hm : 0 ≤ m) (hX : 1 ≤ X) (hY : 1 ≤ Y) (hU : 1 ≤ U) (hV : 1 ≤ V) (h2 : 1 ≤ M2) (hG : 1 ≤ G) (e1 : M1 * G = X * U) (e2 : M2 * G = Y * V) : m * X / Y * U / V ≤ m * M1 / M2 := by
  rw [Int.le_ediv_iff_mul_le (by omega)]
  have q1 : m * X / Y * U / V * V ≤ m * X / Y * U := Int.ediv_mul_le _ (by omega)
  have q2 : m * X / Y * Y ≤ m * X := Int.ediv_mul_le _ (by omega)
  generalize m * X / Y * U / V = u at *
  generalize m * X / Y = i at *
  have q3 : u * V * Y ≤ i * U * Y := Int.mul_le_mul_of_nonneg_right q1 (by omega)
  have q4 : i * Y * U ≤ m * X * U := Int.mul_le_mul_of_nonneg_right q2 (by omega)
  have q5 : u * M2 * G ≤ m * M1 * G := by
    have r1 : u * M2 * G = u * V * Y := by rw [Int.mul_assoc, e2, Int.mul_comm Y V, Int.mul_assoc]
    have r2 : m * M1 * G = m * X * U := by rw [Int.mul_assoc, e1, Int.mul_assoc]
    have r3 : i * U * Y = i * Y * U := Int.mul_right_comm _ _ _
    omega
  exact Int.le_of_mul_le_mul_right q5 (by omega)
theorem made_le2 (a b : Int) (ha : -65536 < a) (ha2 : a < 65536) (hb : -65536 < b) (hb2 : b < 65536) : (mkV (termV a) (termV b)).1.1 ≤ 65536 ∧ (mkV (termV a) (termV b)).1.2 ≤ 65536 := by
  have b1 := termV_bd a
  have b2 := termV_bd b
  have q := quot_pos (a := termV a) (b := termV b) b1.1 b2.1
  have e : mkV (termV a) (termV b) = ((termV a / Int.gcd (termV a) (termV b), termV b / Int.gcd (termV a) (termV b)), 0) := by
    unfold mkV; rw [if_neg (by omega), if_pos (by omega)]
  have t : termV a ≤ 65536 := by
    unfold termV
    rw [Int.tmod_eq_emod]; split <;> (try split) <;> omega
  have t2 : termV b ≤ 65536 := by
    unfold termV
    rw [Int.tmod_eq_emod]; split <;> (try split) <;> omega
  rw [e]
  show termV a / Int.gcd (termV a) (termV b) ≤ 65536 ∧ termV b / Int.gcd (termV a) (termV b) ≤ 65536
  omega
set_option maxRecDepth 100000 in
set_option maxHeartbeats 8000000 in
theorem ratioChains_walk (m n a b c d : Int) (w : World) (hm : 0 ≤ m ∧ m ≤ 4294967295) (hn : 0 ≤ n ∧ n ≤ 4294967295) :
    Calls Try.prog 8 #[.int .u32 m, .int .u32 n, .int .i64 a, .int .i64 b, .int .i64 c, .int .i64 d] w fun e w' => e = .returned (.bool true) ∧ Below w.heap.size w w' := by
  have t1 := Int.tmod_lt_of_pos a (show (0 : Int) < 65536 by omega)
  have t2 := Int.lt_tmod_of_pos a (show (0 : Int) < 65536 by omega)
  have t3 := Int.tmod_lt_of_pos b (show (0 : Int) < 65536 by omega)
  have t4 := Int.lt_tmod_of_pos b (show (0 : Int) < 65536 by omega)
  have t5 := Int.tmod_lt_of_pos c (show (0 : Int) < 65536 by omega)
  have t6 := Int.lt_tmod_of_pos c (show (0 : Int) < 65536 by omega)
  have t7 := Int.tmod_lt_of_pos d (show (0 : Int) < 65536 by omega)
  have t8 := Int.lt_tmod_of_pos d (show (0 : Int) < 65536 by omega)
  obtain ⟨x3, y3⟩ := made_le2 (a.tmod 65536) (b.tmod 65536) (by omega) (by omega) (by omega) (by omega)
  obtain ⟨u3, v3⟩ := made_le2 (c.tmod 65536) (d.tmod 65536) (by omega) (by omega) (by omega) (by omega)
  have h1 := made_ok (a.tmod 65536) (b.tmod 65536)
  have h2 := made_ok (c.tmod 65536) (d.tmod 65536)
  have c1 := hid (fun w => made03_any (a.tmod 65536) (b.tmod 65536) w)
  have c2 := hid (fun w => made03_any (c.tmod 65536) (d.tmod 65536) w)
  generalize (mkV (termV (a.tmod 65536)) (termV (b.tmod 65536))).1.1 = X at *
  generalize (mkV (termV (a.tmod 65536)) (termV (b.tmod 65536))).1.2 = Y at *
  generalize (mkV (termV (c.tmod 65536)) (termV (d.tmod 65536))).1.1 = U at *
  generalize (mkV (termV (c.tmod 65536)) (termV (d.tmod 65536))).1.2 = V at *
  generalize ha : a.tmod 65536 = a' at *
  generalize hb : b.tmod 65536 = b' at *
  generalize hc : c.tmod 65536 = c' at *
  generalize hd : d.tmod 65536 = d' at *
  clear t1 t2 t3 t4 t5 t6 t7 t8
  obtain ⟨⟨x1, x2⟩, ⟨y1, y2⟩, g1⟩ := ratV_true.1 h1
  obtain ⟨⟨u1, u2⟩, ⟨v1, v2⟩, g2⟩ := ratV_true.1 h2
  have c3 := fun w => mul_any X Y U V h1 h2 w
  obtain ⟨M1, M2, G, em, h3, m3, hG, e1, e2⟩ := chain_mul h1 h2 x3 y3 u3 v3
  rw [em] at c3
  have C3 := hid c3
  clear c3 em
  obtain ⟨⟨m1, m2⟩, ⟨m4, m5⟩, g3⟩ := ratV_true.1 h3
  have cl := chain_le (m := m) hm.1 x1 y1 u1 v1 m4 hG e1 e2
  clear e1 e2 hG g1 g2 g3
  have sd := sum_div (A := m * X) (B := n * X) y1
  rw [← Int.add_mul] at sd
  have p0 : 0 ≤ m * X := Int.mul_nonneg hm.1 (by omega)
  have p1 : m * X ≤ 4294967295 * 65536 := Int.mul_le_mul (by omega) (by omega) (by omega) (by omega)
  have p2 : 0 ≤ n * X := Int.mul_nonneg hn.1 (by omega)
  have p3 : n * X ≤ 4294967295 * 65536 := Int.mul_le_mul (by omega) (by omega) (by omega) (by omega)
  have p4 : (m + n) * X = m * X + n * X := Int.add_mul _ _ _
  have i0 : 0 ≤ m * X / Y := Int.ediv_nonneg p0 (by omega)
  have i1 : m * X / Y ≤ m * X := Int.ediv_le_self _ p0
  have j0 : 0 ≤ n * X / Y := Int.ediv_nonneg p2 (by omega)
  have j1 : n * X / Y ≤ n * X := Int.ediv_le_self _ p2
  have p5 : 0 ≤ m * X / Y * U := Int.mul_nonneg i0 (by omega)
  have p6 : m * X / Y * U ≤ (4294967295 * 65536) * 65536 := Int.mul_le_mul (by omega) (by omega) (by omega) (by omega)
  have p7 : 0 ≤ m * M1 := Int.mul_nonneg hm.1 (by omega)
  have p8 : m * M1 ≤ 4294967295 * 4294967296 := Int.mul_le_mul (by omega) (by omega) (by omega) (by omega)
  have c4 := hid (fun w => floor_any m X Y (by omega) (by omega) h1 (by omega) (by omega) w)
  have c5 := hid (fun w => floor_any n X Y (by omega) (by omega) h1 (by omega) (by omega) w)
  have c6 := hid (fun w => floor_any (m + n) X Y (by omega) (by omega) h1 (by omega) (by omega) w)
  have c7 := hid (fun w => floor_big (m * X / Y) U V (by omega) (by omega) h2 (by omega) w)
  have c8 := hid (fun w => floor_big m M1 M2 (by omega) (by omega) h3 (by omega) w)
  have hf : (bigV (m * X / Y * U) V).2 = 0 → (bigV (m * M1) M2).2 = 0 → (bigV (m * X / Y * U) V).1 ≤ (bigV (m * M1) M2).1 := by
    unfold bigV
    intro z1 z2
    split at z1
    · split at z2
      · rename_i k1 k2
        rw [if_pos k1, if_pos k2]; exact cl
      · exact absurd z2 (by decide)
    · exact absurd z1 (by decide)
  generalize (bigV (m * X / Y * U) V).1 = FU at *
  generalize (bigV (m * X / Y * U) V).2 = E1 at *
  generalize (bigV (m * M1) M2).1 = FV at *
  generalize (bigV (m * M1) M2).2 = E2 at *
  have HF := hid hf
  have HI := hid (show (0 ≤ m * X / Y ∧ m * X / Y ≤ 4294967295 * 65536) ∧ (0 ≤ n * X / Y ∧ n * X / Y ≤ 4294967295 * 65536) from ⟨⟨i0, by omega⟩, ⟨j0, by omega⟩⟩)
  have HS := hid sd
  have HM := hid hm
  have HN := hid hn
  clear hf cl p0 p1 p2 p3 p4 p5 p6 p7 p8 i0 i1 j0 j1 h1 h2 h3 m1 m2 m3 m4 m5 x1 x2 x3 y1 y2 y3 u1 u2 u3 v1 v2 v3 sd hm hn
  generalize m * X / Y = I at *
  generalize n * X / Y = J at *
  generalize (m + n) * X / Y = K at *
  have HA := hid ha
  have HB := hid hb
  have HC := hid hc
  have HD := hid hd
  go_enter Try.func8, Try.ntmps8
  go_wp2_with fail
  (with_reducible refine (sane03_any _).mono ?_); rintro e w1 ⟨rfl, hb⟩; have HL := hid (Lv.kept (Lv.start w) hb); clear hb
  go_wp2_with fail
  (with_reducible refine (c1.out _).mono ?_); rintro e w2 ⟨rfl, hb⟩; have HL2 := hid (HL.out.kept hb); clear hb HL
  go_wp2_with fail
  (with_reducible refine (c2.out _).mono ?_); rintro e w3 ⟨rfl, hb⟩; have HL3 := hid (HL2.out.kept hb); clear hb HL2
  go_wp2_with fail
  clear c1 c2 HA HB HC HD ha hc hd
  (with_reducible refine (C3.out _).mono ?_); rintro e w4 ⟨rfl, hb⟩; have HL4 := hid (Lv.alloc (vs := [.int .i64 M1, .int .i64 M2]) (T := 23) (Lv.kept (Lv.alloc (vs := [.int .i64 U, .int .i64 V]) (T := 23) (Lv.alloc (vs := [.int .i64 X, .int .i64 Y]) (T := 23) (HL3.out))) hb)); clear hb HL3 C3
  have hL := HL4.out.facts
  simp only [liveAt, cellsAt, and_true, Nat.zero_add, Nat.reduceAdd, World.size_alloc] at hL
  have q1 : IntKind.i64.wrap m = m := IntWalk.i64_in _ (by have := HM.out; omega)
  have q2 : IntKind.i64.wrap n = n := IntWalk.i64_in _ (by have := HN.out; omega)
  have q3 : IntKind.i64.wrap (m + n) = m + n := IntWalk.i64_in _ (by have := HM.out; have := HN.out; omega)
  go_wp2_with fail
  clear hL
  (with_reducible refine (c4.out _).mono ?_); rintro e w5 ⟨rfl, hb⟩; have HL5 := hid (HL4.out.kept hb); clear hb HL4 c4
  have hL := HL5.out.facts
  simp only [liveAt, cellsAt, and_true, Nat.zero_add, Nat.reduceAdd, World.size_alloc] at hL
  go_wp2_with fail
  clear hL
  (with_reducible refine (c5.out _).mono ?_); rintro e w6 ⟨rfl, hb⟩; have HL6 := hid (HL5.out.kept hb); clear hb HL5 c5
  have hL := HL6.out.facts
  simp only [liveAt, cellsAt, and_true, Nat.zero_add, Nat.reduceAdd, World.size_alloc] at hL
  go_wp2_with fail
  clear hL
  (with_reducible refine (c6.out _).mono ?_); rintro e w7 ⟨rfl, hb⟩; have HL7 := hid (HL6.out.kept hb); clear hb HL6 c6
  have hL := HL7.out.facts
  simp only [liveAt, cellsAt, and_true, Nat.zero_add, Nat.reduceAdd, World.size_alloc] at hL
  clear q1 q2 q3
  have BAD : ∀ (P : Prop), ¬ (wrap64 (wrap64 (K - I) - J) = 0 ∨ wrap64 (wrap64 (K - I) - J) = 1) → P := by
    intro P h
    have := HS.out
    have := HI.out
    have e1 : wrap64 (K - I) = K - I := by simp only [wrap64]; omega
    have e2 : wrap64 (K - I - J) = K - I - J := by simp only [wrap64]; omega
    rw [e1, e2] at h
    omega
  have BAD := hid BAD
  have q1 : IntKind.i64.wrap m = m := IntWalk.i64_in _ (by have := HM.out; omega)
  go_wp2_with fail
  all_goals first
    | (exfalso; clear hL; apply BAD.out; simp_all; done)
    | (exfalso; clear hL; apply BAD.out; simp_all; omega)
    | skip
  all_goals clear hL
  all_goals ((with_reducible refine (c7.out _).mono ?_); rintro e w8 ⟨rfl, hb⟩; have HL8 := hid (HL7.out.kept hb); clear hb)
  all_goals have hL := HL8.out.facts
  all_goals simp only [liveAt, cellsAt, and_true, Nat.zero_add, Nat.reduceAdd, World.size_alloc] at hL
  all_goals go_wp2_with fail
  all_goals clear hL
  all_goals ((with_reducible refine (c8.out _).mono ?_); rintro e w9 ⟨rfl, hb⟩; have HL9 := hid (HL8.out.kept hb); clear hb)
  all_goals go_wp2
  all_goals go_ret
  all_goals first
    | exact ⟨rfl, HL9.out.below⟩
    | (refine ⟨ret_bb ?_, HL9.out.below⟩; have := HF.out; simp only [decide_eq_true_eq]; omega)
    | (refine ⟨ret_bb ?_, HL9.out.below⟩; have := HF.out; simp_all; done)
    | (exfalso; have := HF.out; simp_all; omega)
    | trace_state
end Go.Proofs.Ytkdlpbpaoemcaaa
