/- The law of the three quotients. -/
import Derived.Test.YtkdlpbpaoemcaaaRatioLaws
import Derived.Outline
namespace Go.Proofs.Ytkdlpbpaoemcaaa
open Go.ChangeShapes Go.WideShapes Go.ChangeAt Go.RowKit
set_option linter.unusedVariables false
set_option linter.unusedSimpArgs false

theorem made_le (a b : Int) (ha : -1048576 < a) (ha2 : a < 1048576) : 1 ≤ (mkV (termV a) (termV b)).1.1 ∧ (mkV (termV a) (termV b)).1.1 ≤ 1048576 := by
  have b1 := termV_bd a
  have b2 := termV_bd b
  have q := quot_pos (a := termV a) (b := termV b) b1.1 b2.1
  have e : mkV (termV a) (termV b) = ((termV a / Int.gcd (termV a) (termV b), termV b / Int.gcd (termV a) (termV b)), 0) := by
    unfold mkV; rw [if_neg (by omega), if_pos (by omega)]
  have t : termV a ≤ 1048576 := by
    unfold termV
    rw [Int.tmod_eq_emod]; split <;> (try split) <;> omega
  rw [e]
  show 1 ≤ termV a / Int.gcd (termV a) (termV b) ∧ termV a / Int.gcd (termV a) (termV b) ≤ 1048576
  omega
theorem k_mul {k n : Int} (h1 : -1048576 < k) (h2 : k < 1048576) (h3 : 1 ≤ n) (h4 : n ≤ 1048576) : -2305843009213693952 ≤ k * n ∧ k * n ≤ 2305843009213693952 := by
  by_cases h : 0 ≤ k
  · have q1 := Int.mul_nonneg h (show 0 ≤ n by omega)
    have q2 : k * n ≤ 1048576 * 1048576 := Int.mul_le_mul (by omega) (by omega) (by omega) (by omega)
    omega
  · have q1 := Int.mul_nonneg (show 0 ≤ -k by omega) (show 0 ≤ n by omega)
    have q2 : (-k) * n ≤ 1048576 * 1048576 := Int.mul_le_mul (by omega) (by omega) (by omega) (by omega)
    rw [Int.neg_mul] at q1 q2
    omega
set_option maxRecDepth 100000 in
set_option maxHeartbeats 8000000 in
theorem ratioDivides_walk (n a b : Int) (w : World) :
    Calls Try.prog 6 #[.int .i64 n, .int .i64 a, .int .i64 b] w fun e w' => e = .returned (.bool true) ∧ Below w.heap.size w w' := by
  have t1 := Int.tmod_lt_of_pos n (show (0 : Int) < 1048576 by omega)
  have t2 := Int.lt_tmod_of_pos n (show (0 : Int) < 1048576 by omega)
  have t3 := Int.tmod_lt_of_pos a (show (0 : Int) < 1048576 by omega)
  have t4 := Int.lt_tmod_of_pos a (show (0 : Int) < 1048576 by omega)
  have t5 := Int.tmod_lt_of_pos b (show (0 : Int) < 1048576 by omega)
  have t6 := Int.lt_tmod_of_pos b (show (0 : Int) < 1048576 by omega)
  have m1 := made_le (a.tmod 1048576) (b.tmod 1048576) (by omega) (by omega)
  have hr := made_ok (a.tmod 1048576) (b.tmod 1048576)
  have k1 := k_mul (k := n.tmod 1048576) (by omega) (by omega) m1.1 m1.2
  have c1 := hid (fun w => made03_any (a.tmod 1048576) (b.tmod 1048576) w)
  have c2 := hid (fun w => floor_any (n.tmod 1048576) _ _ (by omega) (by omega) hr k1.1 k1.2 w)
  have c3 := hid (fun w => rest_any (n.tmod 1048576) _ _ (by omega) (by omega) hr k1.1 k1.2 w)
  have c4 := hid (fun w => ceil_any (n.tmod 1048576) _ _ (by omega) (by omega) hr k1.1 k1.2 w)
  obtain ⟨_, ⟨d1, d2⟩, _⟩ := ratV_true.1 hr
  have ne := neg_ediv (a := n.tmod 1048576 * (mkV (termV (a.tmod 1048576)) (termV (b.tmod 1048576))).1.1) (d := (mkV (termV (a.tmod 1048576)) (termV (b.tmod 1048576))).1.2) (by omega)
  have de := Int.mul_ediv_add_emod (n.tmod 1048576 * (mkV (termV (a.tmod 1048576)) (termV (b.tmod 1048576))).1.1) (mkV (termV (a.tmod 1048576)) (termV (b.tmod 1048576))).1.2
  have r0 := Int.emod_nonneg (n.tmod 1048576 * (mkV (termV (a.tmod 1048576)) (termV (b.tmod 1048576))).1.1) (b := (mkV (termV (a.tmod 1048576)) (termV (b.tmod 1048576))).1.2) (by omega)
  have r1 := Int.emod_lt_of_pos (n.tmod 1048576 * (mkV (termV (a.tmod 1048576)) (termV (b.tmod 1048576))).1.1) (b := (mkV (termV (a.tmod 1048576)) (termV (b.tmod 1048576))).1.2) (by omega)
  generalize (mkV (termV (a.tmod 1048576)) (termV (b.tmod 1048576))).1.1 = N at *
  generalize (mkV (termV (a.tmod 1048576)) (termV (b.tmod 1048576))).1.2 = D at *
  clear hr
  generalize hk : n.tmod 1048576 = k at *
  generalize ha : a.tmod 1048576 = a' at *
  generalize hb : b.tmod 1048576 = b' at *
  have HT := hid ((show (-1048576 < k ∧ k < 1048576) ∧ (-1048576 < a' ∧ a' < 1048576) ∧ (-1048576 < b' ∧ b' < 1048576) from ⟨⟨by omega, t1⟩, ⟨by omega, t3⟩, ⟨by omega, t5⟩⟩))
  clear t1 t2 t3 t4 t5 t6
  have HP := hid k1
  generalize hp : k * N = P at *
  have HQ := hid (div_in (a := P) d1 k1.1 k1.2)
  generalize P / D = Q at *
  generalize P % D = M at *
  generalize -((-P) / D) = U at *
  have HN := hid ne
  have HD := hid de
  have HR := hid (show 0 ≤ M ∧ M < D from ⟨r0, r1⟩)
  have HM := hid m1
  have HDD := hid (show 1 ≤ D ∧ D ≤ 68719476736 from ⟨d1, d2⟩)
  have HK := hid hk
  have HA := hid ha
  have HB := hid hb
  clear ne de r0 r1 m1 d1 d2 k1
  go_enter Try.func6, Try.ntmps6
  go_wp2_with fail
  (with_reducible refine (sane03_any _).mono ?_); rintro e w1 ⟨rfl, hb⟩; have HL := hid (Lv.kept (Lv.start w) hb); clear hb
  go_wp2_with fail
  (with_reducible refine (c1.out _).mono ?_); rintro e w2 ⟨rfl, hb⟩; have HL2 := hid (Lv.alloc (vs := [.int .i64 N, .int .i64 D]) (T := 23) (HL.out.kept hb)); clear hb HL
  have hL := HL2.out.facts
  simp only [liveAt, cellsAt, and_true, Nat.zero_add, Nat.reduceAdd, World.size_alloc] at hL
  go_wp2_with fail
  clear hL
  (with_reducible refine (c2.out _).mono ?_); rintro e w3 ⟨rfl, hb⟩; have HL3 := hid (HL2.out.kept hb); clear hb HL2
  have hL := HL3.out.facts
  simp only [liveAt, cellsAt, and_true, Nat.zero_add, Nat.reduceAdd, World.size_alloc] at hL
  go_wp2_with fail
  clear hL
  (with_reducible refine (c3.out _).mono ?_); rintro e w4 ⟨rfl, hb⟩; have HL4 := hid (HL3.out.kept hb); clear hb HL3
  have hL := HL4.out.facts
  simp only [liveAt, cellsAt, and_true, Nat.zero_add, Nat.reduceAdd, World.size_alloc] at hL
  go_wp2_with fail
  clear hL
  (with_reducible refine (c4.out _).mono ?_); rintro e w5 ⟨rfl, hb⟩; have HL5 := hid (HL4.out.kept hb); clear hb HL4
  have hL := HL5.out.facts
  simp only [liveAt, cellsAt, and_true, Nat.zero_add, Nat.reduceAdd, World.size_alloc] at hL
  have hcm : Q * D = D * Q := Int.mul_comm _ _
  have e1 : IntKind.i64.wrap (Q * D) = P - M := by rw [hcm]; have := HD.out; have := HP.out; have := HR.out; have := HDD.out; rw [IntWalk.i64_in _ (by omega)]; omega
  have e2 : IntKind.i64.wrap (P - M + M) = P := by have := HP.out; rw [IntWalk.i64_in _ (by omega)]; omega
  have e3 : IntKind.i64.wrap (k * N) = P := by have := HP.out; rw [hp, IntWalk.i64_in _ (by omega)]
  have e4 : (P == P) = true := by simp
  have e5 : decide (M ≥ 0) = true := by have := HR.out; simp; omega
  have e5' : decide (0 ≤ M) = true := by have := HR.out; simp; omega
  have e6 : decide (M < D) = true := by have := HR.out; simp; omega
  have e9 : IntKind.i64.wrap (Q + 1) = Q + 1 := by have := HQ.out; exact IntWalk.i64_in _ (by omega)
  by_cases h0 : M = 0
  · have e7 : U = Q := by rw [HN.out, if_pos h0]
    have e8 : (M == 0) = true := by simp [h0]
    have e10 : (Q == Q) = true := by simp
    subst e7
    go_wp2
    all_goals go_ret
    all_goals first
      | exact ⟨rfl, HL5.out.below⟩
      | (exfalso; clear e1 e2 e3 e4 e5 e5' e6 e9 c1 c2 c3 c4; have h9 := HDD.out; have h8 := HR.out; have h7 := HP.out; have h6 := HD.out; have h5 := HQ.out; (try simp only [wrap64] at *); omega)
      | trace_state
  · have e7 : U = Q + 1 := by rw [HN.out, if_neg h0]
    have e8 : (M == 0) = false := by simp [h0]
    have e10 : (Q + 1 == Q + 1) = true := by simp
    have e11 : decide (M > 0) = true := by have := HR.out; simp; omega
    have e11' : decide (0 < M) = true := by have := HR.out; simp; omega
    subst e7
    go_wp2
    all_goals go_ret
    all_goals first
      | exact ⟨rfl, HL5.out.below⟩
      | (exfalso; clear e1 e2 e3 e4 e5 e5' e6 e9 c1 c2 c3 c4; have h9 := HDD.out; have h8 := HR.out; have h7 := HP.out; have h6 := HD.out; have h5 := HQ.out; (try simp only [wrap64] at *); omega)
      | trace_state
end Go.Proofs.Ytkdlpbpaoemcaaa
