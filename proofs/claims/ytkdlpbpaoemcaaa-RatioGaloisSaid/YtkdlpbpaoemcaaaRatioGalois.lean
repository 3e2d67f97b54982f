/- The law of floors and ceilings. -/
import Derived.Test.YtkdlpbpaoemcaaaRatioOrder
import Derived.Outline
namespace Go.Proofs.Ytkdlpbpaoemcaaa
open Go.ChangeShapes Go.WideShapes Go.ChangeAt Go.RowKit
set_option linter.unusedVariables false
set_option linter.unusedSimpArgs false

theorem made_le3 (a b : Int) (ha : -1048576 < a) (ha2 : a < 1048576) (hb : -1048576 < b) (hb2 : b < 1048576) : (mkV (termV a) (termV b)).1.1 ≤ 1048576 ∧ (mkV (termV a) (termV b)).1.2 ≤ 1048576 := by
  have b1 := termV_bd a
  have b2 := termV_bd b
  have q := quot_pos (a := termV a) (b := termV b) b1.1 b2.1
  have e : mkV (termV a) (termV b) = ((termV a / Int.gcd (termV a) (termV b), termV b / Int.gcd (termV a) (termV b)), 0) := by
    unfold mkV; rw [if_neg (by omega), if_pos (by omega)]
  have t : termV a ≤ 1048576 := by
    unfold termV
    rw [Int.tmod_eq_emod]; split <;> (try split) <;> omega
  have t2 : termV b ≤ 1048576 := by
    unfold termV
    rw [Int.tmod_eq_emod]; split <;> (try split) <;> omega
  rw [e]
  show termV a / Int.gcd (termV a) (termV b) ≤ 1048576 ∧ termV b / Int.gcd (termV a) (termV b) ≤ 1048576
  omega
theorem mul_bd {k n : Int} (h1 : -2147483648 ≤ k) (h2 : k ≤ 2147483648) (h3 : 1 ≤ n) (h4 : n ≤ 1048576) : -2251799813685248 ≤ k * n ∧ k * n ≤ 2251799813685248 := by
  by_cases h : 0 ≤ k
  · have q1 := Int.mul_nonneg h (show 0 ≤ n by omega)
    have q2 : k * n ≤ 2147483648 * 1048576 := Int.mul_le_mul (by omega) (by omega) (by omega) (by omega)
    omega
  · have q1 := Int.mul_nonneg (show 0 ≤ -k by omega) (show 0 ≤ n by omega)
    have q2 : (-k) * n ≤ 2147483648 * 1048576 := Int.mul_le_mul (by omega) (by omega) (by omega) (by omega)
    rw [Int.neg_mul] at q1 q2
    omega
theorem ceil_le {P X n : Int} (hX : 1 ≤ X) : -((-P) / X) ≤ n ↔ P ≤ n * X := by
  have h : -n ≤ (-P) / X ↔ -n * X ≤ -P := Int.le_ediv_iff_mul_le (by omega)
  rw [Int.neg_mul] at h
  omega
theorem check_far (k n d : Int) (hk : k < -1125899906842624 ∨ 1125899906842624 < k) (hr : ratV n d = true) (w : World) :
    Calls Try.prog 35 #[.int .i64 k, .agg #[.int .i64 n, .int .i64 d]] w fun e w' => e = .returned (.int .i64 2) ∧ Below w.heap.size w w' := by
  have c1 := hid (fun w => ratv_any n d w)
  rw [hr] at c1
  clear hr
  go_enter Try.func35, Try.ntmps35
  go_wp2_with (go_at_call 13; (with_reducible refine (c1.out _).mono ?_); rintro e w1 ⟨rfl, hb⟩; have HL := hid (Lv.kept (Lv.alloc (vs := [.int .i64 n, .int .i64 d]) (T := 23) (Lv.start w)) hb); clear hb)
  all_goals go_ret
  all_goals first
    | exact ⟨rfl, HL.out.below⟩
    | (exfalso; (try simp only [decide_eq_true_eq, decide_eq_false_iff_not] at *); omega)
set_option maxHeartbeats 4000000 in
theorem ceil_far (k n d : Int) (hk : k < -1125899906842624 ∨ 1125899906842624 < k) (hr : ratV n d = true) (w : World) :
    Calls Try.prog 24 #[.int .i64 k, .agg #[.int .i64 n, .int .i64 d]] w fun e w' => e = .returned (.tuple #[.int .i64 0, .int .i64 2]) ∧ Below w.heap.size w w' := by
  have c1 := hid (fun w => check_far k n d hk hr w)
  clear hr hk
  go_enter Try.func24, Try.ntmps24
  go_wp2_with (go_at_call 35; (with_reducible refine (c1.out _).mono ?_); rintro e w1 ⟨rfl, hb⟩; have HL := hid (Lv.kept (Lv.alloc (vs := [.int .i64 n, .int .i64 d]) (T := 23) (Lv.start w)) hb); clear hb)
  all_goals go_ret2
  exact ⟨rfl, HL.out.below⟩
def ceilK (k P d : Int) : Int × Int := if -1125899906842624 ≤ k ∧ k ≤ 1125899906842624 then (-((-P) / d), 0) else (0, 2)
theorem ceil_k (k n d : Int) (hr : ratV n d = true) (h : -2305843009213693952 ≤ k * n) (h2 : k * n ≤ 2305843009213693952) (w : World) :
    Calls Try.prog 24 #[.int .i64 k, .agg #[.int .i64 n, .int .i64 d]] w fun e w' => e = .returned (.tuple #[.int .i64 (ceilK k (k * n) d).1, .int .i64 (ceilK k (k * n) d).2]) ∧ Below w.heap.size w w' := by
  unfold ceilK
  by_cases hk : -1125899906842624 ≤ k ∧ k ≤ 1125899906842624
  · rw [if_pos hk]; exact ceil_any k n d hk.1 hk.2 hr h h2 w
  · rw [if_neg hk]; exact ceil_far k n d (by omega) hr w
set_option maxRecDepth 100000 in
set_option maxHeartbeats 8000000 in
theorem ratioGalois_walk (m n a b : Int) (w : World) (hm : -2147483648 ≤ m ∧ m ≤ 2147483647) (hn : -2147483648 ≤ n ∧ n ≤ 2147483647) :
    Calls Try.prog 9 #[.int .i32 m, .int .i32 n, .int .i64 a, .int .i64 b] w fun e w' => e = .returned (.bool true) ∧ Below w.heap.size w w' := by
  have t1 := Int.tmod_lt_of_pos a (show (0 : Int) < 1048576 by omega)
  have t2 := Int.lt_tmod_of_pos a (show (0 : Int) < 1048576 by omega)
  have t3 := Int.tmod_lt_of_pos b (show (0 : Int) < 1048576 by omega)
  have t4 := Int.lt_tmod_of_pos b (show (0 : Int) < 1048576 by omega)
  obtain ⟨x3, y3⟩ := made_le3 (a.tmod 1048576) (b.tmod 1048576) (by omega) (by omega) (by omega) (by omega)
  have h1 := made_ok (a.tmod 1048576) (b.tmod 1048576)
  have c1 := hid (fun w => made03_any (a.tmod 1048576) (b.tmod 1048576) w)
  generalize (mkV (termV (a.tmod 1048576)) (termV (b.tmod 1048576))).1.1 = X at *
  generalize (mkV (termV (a.tmod 1048576)) (termV (b.tmod 1048576))).1.2 = Y at *
  generalize ha : a.tmod 1048576 = a' at *
  generalize hb : b.tmod 1048576 = b' at *
  clear t1 t2 t3 t4
  obtain ⟨⟨x1, x2⟩, ⟨y1, y2⟩, g1⟩ := ratV_true.1 h1
  have hi : ratV Y X = true := ratV_true.2 ⟨⟨y1, y2⟩, ⟨x1, x2⟩, by rw [Int.gcd_comm]; exact g1⟩
  have c2 := hid (fun w => inv_any X Y h1 w)
  obtain ⟨p1, p2⟩ := mul_bd (k := n) (n := X) (by omega) (by omega) x1 x3
  obtain ⟨p3, p4⟩ := mul_bd (k := m) (n := Y) (by omega) (by omega) y1 y3
  have l1 : n * X / Y * Y ≤ n * X := Int.ediv_mul_le _ (by omega)
  have l2 : n * X < (n * X / Y + 1) * Y := Int.lt_ediv_add_one_mul_self _ (by omega)
  rw [Int.add_mul] at l2
  have f1 : m ≤ n * X / Y ↔ m * Y ≤ n * X := Int.le_ediv_iff_mul_le (by omega)
  have f2 := ceil_le (P := m * Y) (X := X) (n := n) x1
  have f3 := ceil_le (P := n * X / Y * Y) (X := X) (n := n) x1
  have c3 := hid (fun w => floor_any n X Y (by omega) (by omega) h1 (by omega) (by omega) w)
  have c4 := hid (fun w => ceil_any m Y X (by omega) (by omega) hi (by omega) (by omega) w)
  have c5 := hid (fun w => ceil_k (n * X / Y) Y X hi (by omega) (by omega) w)
  have f4 : (ceilK (n * X / Y) (n * X / Y * Y) X).2 = 0 → (ceilK (n * X / Y) (n * X / Y * Y) X).1 ≤ n := by
    unfold ceilK
    intro z
    split at z
    · rename_i k1
      rw [if_pos k1]; exact f3.2 l1
    · exact absurd z (by decide)
  have f5 : m ≤ n * X / Y ↔ -((-(m * Y)) / X) ≤ n := f1.trans f2.symm
  generalize (ceilK (n * X / Y) (n * X / Y * Y) X).1 = KK at *
  generalize (ceilK (n * X / Y) (n * X / Y * Y) X).2 = KE at *
  generalize n * X / Y = Q at *
  generalize -((-(m * Y)) / X) = PP at *
  have HF := hid f4
  have HG := hid f5
  have HM := hid hm
  have HN := hid hn
  have HA := hid ha
  have HB := hid hb
  clear f1 f2 f3 f4 f5 l1 l2 p1 p2 p3 p4 h1 hi x1 x2 x3 y1 y2 y3 g1 hm hn
  have q1 : IntKind.i64.wrap m = m := IntWalk.i64_in _ (by have := HM.out; omega)
  have q2 : IntKind.i64.wrap n = n := IntWalk.i64_in _ (by have := HN.out; omega)
  go_enter Try.func9, Try.ntmps9
  go_wp2_with fail
  (with_reducible refine (sane03_any _).mono ?_); rintro e w1 ⟨rfl, hb⟩; have HL := hid (Lv.kept (Lv.start w) hb); clear hb
  go_wp2_with fail
  (with_reducible refine (c1.out _).mono ?_); rintro e w2 ⟨rfl, hb⟩; have HL2 := hid (Lv.alloc (vs := [.int .i64 X, .int .i64 Y]) (T := 23) (HL.out.kept hb)); clear hb HL
  have hL := HL2.out.facts
  simp only [liveAt, cellsAt, and_true, Nat.zero_add, Nat.reduceAdd, World.size_alloc] at hL
  go_wp2_with fail
  clear hL
  (with_reducible refine (c2.out _).mono ?_); rintro e w3 ⟨rfl, hb⟩; have HL3 := hid (Lv.alloc (vs := [.int .i64 Y, .int .i64 X]) (T := 23) (HL2.out.kept hb)); clear hb HL2
  have hL := HL3.out.facts
  simp only [liveAt, cellsAt, and_true, Nat.zero_add, Nat.reduceAdd, World.size_alloc] at hL
  go_wp2_with fail
  clear hL
  (with_reducible refine (c3.out _).mono ?_); rintro e w4 ⟨rfl, hb⟩; have HL4 := hid (HL3.out.kept hb); clear hb HL3
  have hL := HL4.out.facts
  simp only [liveAt, cellsAt, and_true, Nat.zero_add, Nat.reduceAdd, World.size_alloc] at hL
  go_wp2_with fail
  clear hL
  (with_reducible refine (c4.out _).mono ?_); rintro e w5 ⟨rfl, hb⟩; have HL5 := hid (HL4.out.kept hb); clear hb HL4
  have hL := HL5.out.facts
  simp only [liveAt, cellsAt, and_true, Nat.zero_add, Nat.reduceAdd, World.size_alloc] at hL
  go_wp2_with fail
  clear hL
  (with_reducible refine (c5.out _).mono ?_); rintro e w6 ⟨rfl, hb⟩; have HL6 := hid (HL5.out.kept hb); clear hb HL5
  have hL := HL6.out.facts
  simp only [liveAt, cellsAt, and_true, Nat.zero_add, Nat.reduceAdd, World.size_alloc] at hL
  by_cases hg : m ≤ Q
  · have hp := HG.out.1 hg
    have e1 : decide (m ≤ Q) = true := by simpa using hg
    have e2 : decide (PP ≤ n) = true := by simpa using hp
    go_wp2
    all_goals go_ret
    all_goals first
      | exact ⟨rfl, HL6.out.below⟩
      | (refine ⟨ret_bb ?_, HL6.out.below⟩; have := HF.out; simp only [decide_eq_true_eq]; omega)
      | (exfalso; have := HF.out; simp_all; omega)
      | trace_state
  · have hp : ¬ PP ≤ n := fun q => hg (HG.out.2 q)
    have e1 : decide (m ≤ Q) = false := by simpa using hg
    have e2 : decide (PP ≤ n) = false := by simpa using hp
    go_wp2
    all_goals go_ret
    all_goals first
      | exact ⟨rfl, HL6.out.below⟩
      | (refine ⟨ret_bb ?_, HL6.out.below⟩; have := HF.out; simp only [decide_eq_true_eq]; omega)
      | (exfalso; have := HF.out; simp_all; omega)
      | trace_state
end Go.Proofs.Ytkdlpbpaoemcaaa
