/- Floors of products below two to the sixty-fourth. -/
import Derived.Test.YtkdlpbpaoemcaaaRatioMul
import Derived.Test.YtkdlpbpaoemcaaaRatioFloor
import Derived.Outline
namespace Go.Proofs.Ytkdlpbpaoemcaaa
open Go.ChangeShapes Go.WideShapes Go.ChangeAt Go.RowKit
set_option linter.unusedVariables false
set_option linter.unusedSimpArgs false

set_option maxHeartbeats 8000000 in
theorem both_big (k n d : Int) (hk : 0 ≤ k) (hk2 : k ≤ 1125899906842624) (hn : 1 ≤ n) (hn2 : n ≤ 68719476736) (hd : 1 ≤ d) (hd2 : d ≤ 68719476736) (h : k * n < 18446744073709551616) (w : World) :
    Calls Try.prog 36 #[.int .i64 k, .agg #[.int .i64 n, .int .i64 d]] w fun e w' => (∃ r c : Int, e = .returned (.tuple #[.int .i64 (if k * n / d ≤ 4611686018427387904 then k * n / d else 4611686018427387905), .int .i64 r, .int .i64 c])) ∧ Below w.heap.size w w' := by
  have c1 := hid (fun w => split_small k n d hk hk2 hn hn2 hd hd2 (by omega) w)
  have p0 := Int.mul_nonneg hk (show 0 ≤ n by omega)
  have r1 := Int.emod_nonneg (k * n) (show d ≠ 0 by omega)
  have r2 := Int.emod_lt_of_pos (k * n) (show 0 < d by omega)
  have r3 := Int.ediv_nonneg p0 (show 0 ≤ d by omega)
  have r4 := Int.ediv_le_self d p0
  generalize k * n = P at *
  generalize P / d = Q at *
  generalize P % d = M at *
  by_cases hq : Q ≤ 4611686018427387904
  · rw [if_pos hq]
    go_enter Try.func36, Try.ntmps36
    go_wp2_with (go_at_call 39; (with_reducible refine (c1.out _).mono ?_); rintro e w1 ⟨rfl, hb⟩; have HL := hid (Lv.kept (Lv.alloc (vs := [.int .i64 n, .int .i64 d]) (T := 23) (Lv.start w)) hb); clear hb; have hL := HL.out.facts; simp only [liveAt, cellsAt, and_true, Nat.zero_add, Nat.reduceAdd, World.size_alloc] at hL)
    all_goals go_ret3
    all_goals first
      | exact ⟨⟨_, _, rfl⟩, HL.out.below⟩
      | trace_state
  · rw [if_neg hq]
    go_enter Try.func36, Try.ntmps36
    go_wp2_with (go_at_call 39; (with_reducible refine (c1.out _).mono ?_); rintro e w1 ⟨rfl, hb⟩; have HL := hid (Lv.kept (Lv.alloc (vs := [.int .i64 n, .int .i64 d]) (T := 23) (Lv.start w)) hb); clear hb; have hL := HL.out.facts; simp only [liveAt, cellsAt, and_true, Nat.zero_add, Nat.reduceAdd, World.size_alloc] at hL)
    all_goals go_ret3
    all_goals first
      | exact ⟨⟨_, _, rfl⟩, HL.out.below⟩
      | (have e : Q = 4611686018427387905 := by omega
         subst e
         exact ⟨⟨_, _, rfl⟩, HL.out.below⟩)
      | trace_state
theorem inRes_any (n : Int) (h0 : 0 ≤ n) (h1 : n ≤ 4611686018427387905) (w : World) : Calls Try.prog 37 #[.int .i64 n] w fun e w' => e = .returned (.bool (decide (n ≤ 4611686018427387904))) ∧ w = w' := by
  go_enter Try.func37, Try.ntmps37
  go_wp2
  all_goals go_ret
  all_goals exact ⟨ret_bb (by first | rfl | (simp; done) | (simp; omega)), rfl⟩
def bigV (P d : Int) : Int × Int := if P / d ≤ 4611686018427387904 then (P / d, 0) else (0, 2)
set_option maxHeartbeats 4000000 in
theorem floor_big (k n d : Int) (hk : 0 ≤ k) (hk2 : k ≤ 1125899906842624) (hr : ratV n d = true) (h : k * n < 18446744073709551616) (w : World) :
    Calls Try.prog 22 #[.int .i64 k, .agg #[.int .i64 n, .int .i64 d]] w fun e w' => e = .returned (.tuple #[.int .i64 (bigV (k * n) d).1, .int .i64 (bigV (k * n) d).2]) ∧ Below w.heap.size w w' := by
  obtain ⟨⟨n1, n2⟩, ⟨d1, d2⟩, _⟩ := ratV_true.1 hr
  have c1 := hid (fun w => check_ok k n d (by omega) hk2 hr w)
  have c2 := hid (fun w => both_big k n d hk hk2 n1 n2 d1 d2 h w)
  have p0 := Int.mul_nonneg hk (show 0 ≤ n by omega)
  have r3 := Int.ediv_nonneg p0 (show 0 ≤ d by omega)
  unfold bigV
  clear hr
  generalize k * n = P at *
  generalize P / d = Q at *
  by_cases hq : Q ≤ 4611686018427387904
  · rw [if_pos hq] at c2
    rw [if_pos hq]
    have c3 := hid (fun w => inRes_any Q r3 (by omega) w)
    rw [decide_eq_true hq] at c3
    go_enter Try.func22, Try.ntmps22
    go_wp2_with (first | (go_at_call 35; (with_reducible refine (c1.out _).mono ?_); rintro e w1 ⟨rfl, hb⟩; have HL := hid (Lv.kept (Lv.alloc (vs := [.int .i64 n, .int .i64 d]) (T := 23) (Lv.start w)) hb); clear hb; have hL := HL.out.facts; simp only [liveAt, cellsAt, and_true, Nat.zero_add, Nat.reduceAdd, World.size_alloc] at hL) | (go_at_call 36; (with_reducible refine (c2.out _).mono ?_); rintro e w2 ⟨⟨r, c, rfl⟩, hb⟩; have HL2 := hid (HL.out.kept hb); clear hb) | (go_at_call 37; (with_reducible refine (c3.out _).mono ?_); rintro e w3 ⟨rfl, rfl⟩))
    go_ret2
    exact ⟨rfl, HL2.out.below⟩
  · rw [if_neg hq] at c2
    rw [if_neg hq]
    have c3 := hid (fun w => inRes_any 4611686018427387905 (by omega) (by omega) w)
    rw [decide_eq_false (show ¬ ((4611686018427387905 : Int) ≤ 4611686018427387904) by omega)] at c3
    go_enter Try.func22, Try.ntmps22
    go_wp2_with (first | (go_at_call 35; (with_reducible refine (c1.out _).mono ?_); rintro e w1 ⟨rfl, hb⟩; have HL := hid (Lv.kept (Lv.alloc (vs := [.int .i64 n, .int .i64 d]) (T := 23) (Lv.start w)) hb); clear hb; have hL := HL.out.facts; simp only [liveAt, cellsAt, and_true, Nat.zero_add, Nat.reduceAdd, World.size_alloc] at hL) | (go_at_call 36; (with_reducible refine (c2.out _).mono ?_); rintro e w2 ⟨⟨r, c, rfl⟩, hb⟩; have HL2 := hid (HL.out.kept hb); clear hb) | (go_at_call 37; (with_reducible refine (c3.out _).mono ?_); rintro e w3 ⟨rfl, rfl⟩))
    go_ret2
    exact ⟨rfl, HL2.out.below⟩
end Go.Proofs.Ytkdlpbpaoemcaaa
