/- Multiples of ratios that fit into 64 bits, rounded. No statement is proved here. -/
import Derived.Test.YtkdlpbpaoemcaaaRatio
import Derived.PlainAid
import Derived.Deep.RegionHeld3
namespace Go.Proofs.Ytkdlpbpaoemcaaa
open Go.ChangeShapes Go.WideShapes Go.ChangeAt Go.RowKit
set_option linter.unusedVariables false
set_option linter.unusedSimpArgs false

theorem neg_ediv {a d : Int} (hd : 0 < d) : -((-a) / d) = if a % d = 0 then a / d else a / d + 1 := by
  have h1 := Int.mul_ediv_add_emod a d
  have h2 := Int.emod_nonneg a (show d ≠ 0 by omega)
  have h3 := Int.emod_lt_of_pos a hd
  split
  · rename_i h
    have e : -a = d * (-(a / d)) := by rw [Int.mul_neg]; omega
    rw [e, Int.mul_ediv_cancel_left _ (by omega)]; omega
  · rename_i h
    have e : -a = (d - a % d) + d * (-(a / d) - 1) := by rw [Int.mul_sub, Int.mul_neg]; omega
    rw [e, Int.add_mul_ediv_left _ _ (by omega), Int.ediv_eq_zero_of_lt (by omega) (by omega)]; omega
theorem neg_emod {a d : Int} (hd : 0 < d) : (-a) % d = if a % d = 0 then 0 else d - a % d := by
  have h1 := Int.mul_ediv_add_emod (-a) d
  have e := neg_ediv (a := a) hd
  have h4 := Int.mul_ediv_add_emod a d
  split
  · rename_i h
    rw [if_pos h] at e
    have : (-a) / d = -(a / d) := by omega
    rw [this, Int.mul_neg] at h1; omega
  · rename_i h
    rw [if_neg h] at e
    have : (-a) / d = -(a / d) - 1 := by omega
    rw [this, Int.mul_sub, Int.mul_neg] at h1; omega
theorem div64_small (l y : Int) (hl : 0 ≤ l) (hl2 : l < 18446744073709551616) (hy : 1 ≤ y) (hy2 : y < 18446744073709551616) (w : World) :
    Calls Try.prog 40 #[.int .u64 0, .int .u64 l, .int .u64 y] w fun e w' => e = .returned (.tuple #[.int .u64 (l / y), .int .u64 (l % y)]) ∧ Below w.heap.size w w' := by
  have y0 : (y == 0) = false := by simp; omega
  have y1 : ¬ y = 0 := by omega
  have r1 := Int.emod_nonneg l y1
  have r2 := Int.emod_lt_of_pos l (show 0 < y by omega)
  have r3 := Int.ediv_nonneg hl (show 0 ≤ y by omega)
  have r4 := Int.ediv_le_self y hl
  go_enter Try.func40, Try.ntmps40
  go_wp2
  go_quiet (fail)
  go_wp2
  go_ret2
  exact ⟨rfl, ⟨rfl, rfl, rfl, Nat.le_refl _, fun _ _ => rfl⟩⟩
theorem mul64_small (x y : Int) (hx : 0 ≤ x) (hx2 : x < 18446744073709551616) (hy : 0 ≤ y) (hy2 : y < 18446744073709551616) (h : x * y < 18446744073709551616) (w : World) :
    Calls Try.prog 34 #[.int .u64 x, .int .u64 y] w fun e w' => e = .returned (.tuple #[.int .u64 0, .int .u64 (x * y)]) ∧ w = w' :=
  (mul64_any x y hx hx2 hy hy2 w).mono fun e w' ⟨h1, h2⟩ => ⟨by
    have p := Int.mul_nonneg hx hy
    have e1 : x * y / 18446744073709551616 = 0 := by omega
    have e2 : x * y % 18446744073709551616 = x * y := by omega
    rw [h1, e1, e2], h2⟩
set_option maxHeartbeats 4000000 in
theorem split_small (k n d : Int) (hk : 0 ≤ k) (hk2 : k ≤ 1125899906842624) (hn : 1 ≤ n) (hn2 : n ≤ 68719476736) (hd : 1 ≤ d) (hd2 : d ≤ 68719476736) (h : k * n < 18446744073709551616) (w : World) :
    Calls Try.prog 39 #[.int .u64 k, .agg #[.int .i64 n, .int .i64 d]] w fun e w' => e = .returned (.tuple #[.int .u64 (k * n / d), .int .u64 (k * n % d)]) ∧ Below w.heap.size w w' := by
  have c1 := hid (fun w => mul64_small k n hk (by omega) (by omega) (by omega) h w)
  have p0 := Int.mul_nonneg hk (show 0 ≤ n by omega)
  have c2 := hid (fun w => div64_small (k * n) d p0 h hd (by omega) w)
  clear h
  generalize k * n = P at *
  generalize P / d = Q at *
  generalize P % d = M at *
  go_enter Try.func39, Try.ntmps39
  go_wp2_with (first | (go_at_call 34; (with_reducible refine (c1.out _).mono ?_); rintro e w1 ⟨rfl, rfl⟩) | (go_at_call 40; (with_reducible refine (c2.out _).mono ?_); rintro e w2 ⟨rfl, hb⟩; have HB := hid hb; clear hb))
  go_ret2
  exact ⟨rfl, ((Below.refl _ _).alloc (Nat.le_refl _) _).trans (HB.out.mono (by simp))⟩
theorem ret_three {k1 k2 k3 : IntKind} {a b c a2 b2 c2 : Int} (h : a = a2) (h2 : b = b2) (h3 : c = c2) : Ending.returned (.tuple #[.int k1 a, .int k2 b, .int k3 c]) = .returned (.tuple #[.int k1 a2, .int k2 b2, .int k3 c2]) := by rw [h, h2, h3]
theorem ret_two {k1 k2 : IntKind} {a b a2 b2 : Int} (h : a = a2) (h2 : b = b2) : Ending.returned (.tuple #[.int k1 a, .int k2 b]) = .returned (.tuple #[.int k1 a2, .int k2 b2]) := by rw [h, h2]
set_option maxHeartbeats 8000000 in
theorem both_pos (k n d : Int) (hk : 0 ≤ k) (hk2 : k ≤ 1125899906842624) (hn : 1 ≤ n) (hn2 : n ≤ 68719476736) (hd : 1 ≤ d) (hd2 : d ≤ 68719476736) (h : k * n ≤ 2305843009213693952) (w : World) :
    Calls Try.prog 36 #[.int .i64 k, .agg #[.int .i64 n, .int .i64 d]] w fun e w' => e = .returned (.tuple #[.int .i64 (k * n / d), .int .i64 (k * n % d), .int .i64 (-((-(k * n)) / d))]) ∧ Below w.heap.size w w' := by
  have c1 := hid (fun w => split_small k n d hk hk2 hn hn2 hd hd2 (by omega) w)
  have p0 := Int.mul_nonneg hk (show 0 ≤ n by omega)
  have r1 := Int.emod_nonneg (k * n) (show d ≠ 0 by omega)
  have r2 := Int.emod_lt_of_pos (k * n) (show 0 < d by omega)
  have r3 := Int.ediv_nonneg p0 (show 0 ≤ d by omega)
  have r4 := Int.ediv_le_self d p0
  have e1 := hid (neg_ediv (a := k * n) (show 0 < d by omega))
  generalize k * n = P at *
  generalize P / d = Q at *
  generalize P % d = M at *
  generalize -((-P) / d) = N at *
  go_enter Try.func36, Try.ntmps36
  go_wp2_with (go_at_call 39; (with_reducible refine (c1.out _).mono ?_); rintro e w1 ⟨rfl, hb⟩; have HL := hid (Lv.kept (Lv.alloc (vs := [.int .i64 n, .int .i64 d]) (T := 23) (Lv.start w)) hb); clear hb; have hL := HL.out.facts; simp only [liveAt, cellsAt, and_true, Nat.zero_add, Nat.reduceAdd, World.size_alloc] at hL)
  all_goals go_ret3
  all_goals (refine ⟨ret_three rfl rfl ?_, HL.out.below⟩; rw [e1.out])
  · rw [if_neg (by omega)]
  · rw [if_pos (by omega)]
set_option maxHeartbeats 8000000 in
theorem both_neg (k n d : Int) (hk : k < 0) (hk2 : -1125899906842624 ≤ k) (hn : 1 ≤ n) (hn2 : n ≤ 68719476736) (hd : 1 ≤ d) (hd2 : d ≤ 68719476736) (h : -2305843009213693952 ≤ k * n) (w : World) :
    Calls Try.prog 36 #[.int .i64 k, .agg #[.int .i64 n, .int .i64 d]] w fun e w' => e = .returned (.tuple #[.int .i64 (k * n / d), .int .i64 (k * n % d), .int .i64 (-((-(k * n)) / d))]) ∧ Below w.heap.size w w' := by
  have hmn : -k * n = -(k * n) := Int.neg_mul k n
  have c1 := hid (fun w => split_small (-k) n d (by omega) (by omega) hn hn2 hd hd2 (by omega) w)
  rw [hmn] at c1
  have p0 : k * n < 0 := Int.mul_neg_of_neg_of_pos hk (by omega)
  have r1 := Int.emod_nonneg (-(k * n)) (show d ≠ 0 by omega)
  have r2 := Int.emod_lt_of_pos (-(k * n)) (show 0 < d by omega)
  have r3 := Int.ediv_nonneg (show 0 ≤ -(k * n) by omega) (show 0 ≤ d by omega)
  have r4 := Int.ediv_le_self d (show 0 ≤ -(k * n) by omega)
  have e1 := neg_ediv (a := -(k * n)) (show 0 < d by omega)
  rw [Int.neg_neg] at e1
  have e2 := neg_emod (a := -(k * n)) (show 0 < d by omega)
  rw [Int.neg_neg] at e2
  have E1 := hid e1
  have E2 := hid e2
  have pb : -(k * n) ≤ 2305843009213693952 := by omega
  clear hmn e1 e2
  generalize -(k * n) = P at *
  generalize P / d = Q at *
  generalize P % d = M at *
  generalize k * n / d = N at *
  generalize k * n % d = MM at *
  go_enter Try.func36, Try.ntmps36
  go_wp2_with fail
  rw [show IntKind.u64.wrap (-IntKind.u64.wrap k) = -k from by simp only [IntKind.wrap_u64]; omega]
  (with_reducible refine (c1.out _).mono ?_); rintro e w1 ⟨rfl, hb⟩; have HL := hid (Lv.kept (Lv.alloc (vs := [.int .i64 n, .int .i64 d]) (T := 23) (Lv.start w)) hb); clear hb
  have hL := HL.out.facts
  simp only [liveAt, cellsAt, and_true, Nat.zero_add, Nat.reduceAdd, World.size_alloc] at hL
  go_wp2
  all_goals go_ret3
  all_goals (refine ⟨ret_three ?_ ?_ ?_, HL.out.below⟩)
  all_goals (have e1 := E1.out; have e2 := E2.out; clear hL)
  all_goals first
    | omega
    | (simp only [IntKind.wrap_u64, IntKind.wrap_i64, wrap64]; omega)
    | trace_state
theorem both_any (k n d : Int) (hk : -1125899906842624 ≤ k) (hk2 : k ≤ 1125899906842624) (hr : ratV n d = true) (h : -2305843009213693952 ≤ k * n) (h2 : k * n ≤ 2305843009213693952) (w : World) :
    Calls Try.prog 36 #[.int .i64 k, .agg #[.int .i64 n, .int .i64 d]] w fun e w' => e = .returned (.tuple #[.int .i64 (k * n / d), .int .i64 (k * n % d), .int .i64 (-((-(k * n)) / d))]) ∧ Below w.heap.size w w' := by
  obtain ⟨⟨n1, n2⟩, ⟨d1, d2⟩, _⟩ := ratV_true.1 hr
  by_cases h0 : 0 ≤ k
  · exact both_pos k n d h0 hk2 n1 n2 d1 d2 h2 w
  · exact both_neg k n d (by omega) hk n1 n2 d1 d2 h w
theorem check_ok (k n d : Int) (hk : -1125899906842624 ≤ k) (hk2 : k ≤ 1125899906842624) (hr : ratV n d = true) (w : World) :
    Calls Try.prog 35 #[.int .i64 k, .agg #[.int .i64 n, .int .i64 d]] w fun e w' => e = .returned (.int .i64 0) ∧ Below w.heap.size w w' := by
  have c1 := hid (fun w => ratv_any n d w)
  rw [hr] at c1
  go_enter Try.func35, Try.ntmps35
  go_wp2_with (go_at_call 13; (with_reducible refine (c1.out _).mono ?_); rintro e w1 ⟨rfl, hb⟩; have HL := hid (Lv.kept (Lv.alloc (vs := [.int .i64 n, .int .i64 d]) (T := 23) (Lv.start w)) hb); clear hb)
  go_ret
  exact ⟨rfl, HL.out.below⟩
theorem inRes_yes (n : Int) (h1 : -2305843009213693952 ≤ n) (h2 : n ≤ 2305843009213693952) (w : World) : Calls Try.prog 37 #[.int .i64 n] w fun e w' => e = .returned (.bool true) ∧ w = w' := by
  have hb : decide (n ≤ 4611686018427387904) = true := by simp; omega
  go_enter Try.func37, Try.ntmps37
  go_wp2
  go_ret
  exact ⟨ret_bb (by first | rfl | (simp; done) | (simp; omega)), rfl⟩
theorem div_in {a d : Int} (hd : 1 ≤ d) (h1 : -2305843009213693952 ≤ a) (h2 : a ≤ 2305843009213693952) : -2305843009213693952 ≤ a / d ∧ a / d ≤ 2305843009213693952 := by
  have m := Int.mul_ediv_add_emod a d
  have r1 := Int.emod_nonneg a (show d ≠ 0 by omega)
  have r2 := Int.emod_lt_of_pos a (show 0 < d by omega)
  constructor
  · exact Int.le_ediv_of_mul_le (by omega) (by
      have : -2305843009213693952 * d ≤ -2305843009213693952 * 1 := Int.mul_le_mul_of_nonpos_left (by omega) hd
      omega)
  · have : a / d < 2305843009213693953 := Int.ediv_lt_of_lt_mul (by omega) (by
      have : (2305843009213693953 : Int) * 1 ≤ 2305843009213693953 * d := Int.mul_le_mul_of_nonneg_left hd (by omega)
      omega)
    omega
set_option maxHeartbeats 4000000 in
theorem floor_any (k n d : Int) (hk : -1125899906842624 ≤ k) (hk2 : k ≤ 1125899906842624) (hr : ratV n d = true) (h : -2305843009213693952 ≤ k * n) (h2 : k * n ≤ 2305843009213693952) (w : World) :
    Calls Try.prog 22 #[.int .i64 k, .agg #[.int .i64 n, .int .i64 d]] w fun e w' => e = .returned (.tuple #[.int .i64 (k * n / d), .int .i64 0]) ∧ Below w.heap.size w w' := by
  have c1 := hid (fun w => check_ok k n d hk hk2 hr w)
  have c2 := hid (fun w => both_any k n d hk hk2 hr h h2 w)
  obtain ⟨_, ⟨d1, d2⟩, _⟩ := ratV_true.1 hr
  obtain ⟨b1, b2⟩ := div_in d1 h h2
  obtain ⟨b3, b4⟩ := div_in (a := -(k * n)) d1 (by omega) (by omega)
  clear hr
  generalize k * n = P at *
  generalize P / d = Q at *
  generalize P % d = M at *
  generalize (-P) / d = N at *
  go_enter Try.func22, Try.ntmps22
  go_wp2_with (first | (go_at_call 35; (with_reducible refine (c1.out _).mono ?_); rintro e w1 ⟨rfl, hb⟩; have HL := hid (Lv.kept (Lv.alloc (vs := [.int .i64 n, .int .i64 d]) (T := 23) (Lv.start w)) hb); clear hb; have hL := HL.out.facts; simp only [liveAt, cellsAt, and_true, Nat.zero_add, Nat.reduceAdd, World.size_alloc] at hL) | (go_at_call 36; (with_reducible refine (c2.out _).mono ?_); rintro e w2 ⟨rfl, hb⟩; have HL2 := hid (HL.out.kept hb); clear hb) | (go_at_call 37; (with_reducible refine (inRes_yes _ (by omega) (by omega) _).mono ?_); rintro e w3 ⟨rfl, rfl⟩))
  go_ret2
  exact ⟨rfl, HL2.out.below⟩
set_option maxHeartbeats 4000000 in
theorem ceil_any (k n d : Int) (hk : -1125899906842624 ≤ k) (hk2 : k ≤ 1125899906842624) (hr : ratV n d = true) (h : -2305843009213693952 ≤ k * n) (h2 : k * n ≤ 2305843009213693952) (w : World) :
    Calls Try.prog 24 #[.int .i64 k, .agg #[.int .i64 n, .int .i64 d]] w fun e w' => e = .returned (.tuple #[.int .i64 (-((-(k * n)) / d)), .int .i64 0]) ∧ Below w.heap.size w w' := by
  have c1 := hid (fun w => check_ok k n d hk hk2 hr w)
  have c2 := hid (fun w => both_any k n d hk hk2 hr h h2 w)
  obtain ⟨_, ⟨d1, d2⟩, _⟩ := ratV_true.1 hr
  obtain ⟨b1, b2⟩ := div_in d1 h h2
  obtain ⟨b3, b4⟩ := div_in (a := -(k * n)) d1 (by omega) (by omega)
  clear hr
  generalize k * n = P at *
  generalize P / d = Q at *
  generalize P % d = M at *
  generalize (-P) / d = N at *
  go_enter Try.func24, Try.ntmps24
  go_wp2_with (first | (go_at_call 35; (with_reducible refine (c1.out _).mono ?_); rintro e w1 ⟨rfl, hb⟩; have HL := hid (Lv.kept (Lv.alloc (vs := [.int .i64 n, .int .i64 d]) (T := 23) (Lv.start w)) hb); clear hb; have hL := HL.out.facts; simp only [liveAt, cellsAt, and_true, Nat.zero_add, Nat.reduceAdd, World.size_alloc] at hL) | (go_at_call 36; (with_reducible refine (c2.out _).mono ?_); rintro e w2 ⟨rfl, hb⟩; have HL2 := hid (HL.out.kept hb); clear hb) | (go_at_call 37; (with_reducible refine (inRes_yes _ (by omega) (by omega) _).mono ?_); rintro e w3 ⟨rfl, rfl⟩))
  go_ret2
  exact ⟨rfl, HL2.out.below⟩
set_option maxHeartbeats 4000000 in
theorem rest_any (k n d : Int) (hk : -1125899906842624 ≤ k) (hk2 : k ≤ 1125899906842624) (hr : ratV n d = true) (h : -2305843009213693952 ≤ k * n) (h2 : k * n ≤ 2305843009213693952) (w : World) :
    Calls Try.prog 26 #[.int .i64 k, .agg #[.int .i64 n, .int .i64 d]] w fun e w' => e = .returned (.tuple #[.int .i64 (k * n % d), .int .i64 0]) ∧ Below w.heap.size w w' := by
  have c1 := hid (fun w => check_ok k n d hk hk2 hr w)
  have c2 := hid (fun w => both_any k n d hk hk2 hr h h2 w)
  obtain ⟨_, ⟨d1, d2⟩, _⟩ := ratV_true.1 hr
  obtain ⟨b1, b2⟩ := div_in d1 h h2
  obtain ⟨b3, b4⟩ := div_in (a := -(k * n)) d1 (by omega) (by omega)
  clear hr
  generalize k * n = P at *
  generalize P / d = Q at *
  generalize P % d = M at *
  generalize (-P) / d = N at *
  go_enter Try.func26, Try.ntmps26
  go_wp2_with (first | (go_at_call 35; (with_reducible refine (c1.out _).mono ?_); rintro e w1 ⟨rfl, hb⟩; have HL := hid (Lv.kept (Lv.alloc (vs := [.int .i64 n, .int .i64 d]) (T := 23) (Lv.start w)) hb); clear hb; have hL := HL.out.facts; simp only [liveAt, cellsAt, and_true, Nat.zero_add, Nat.reduceAdd, World.size_alloc] at hL) | (go_at_call 36; (with_reducible refine (c2.out _).mono ?_); rintro e w2 ⟨rfl, hb⟩; have HL2 := hid (HL.out.kept hb); clear hb) | (go_at_call 37; (with_reducible refine (inRes_yes _ (by omega) (by omega) _).mono ?_); rintro e w3 ⟨rfl, rfl⟩))
  go_ret2
  exact ⟨rfl, HL2.out.below⟩
def termV (n : Int) : Int := (if n.tmod 68719476736 < 0 then -(n.tmod 68719476736) else n.tmod 68719476736) + 1
theorem termV_bd (n : Int) : 1 ≤ termV n ∧ termV n ≤ 68719476736 := by
  unfold termV; rw [Int.tmod_eq_emod]; split <;> (try split) <;> omega
theorem term_law (n : Int) (w : World) : Calls Try.prog 31 #[.int .i64 n] w fun e w' => e = .returned (.int .i64 (termV n)) ∧ w = w' := by
  have hb := termV_bd n
  have hm1 := Int.tmod_lt_of_pos n (show (0 : Int) < 68719476736 by omega)
  have hm2 := Int.lt_tmod_of_pos n (show (0 : Int) < 68719476736 by omega)
  go_enter Try.func31, Try.ntmps31
  go_wp2
  all_goals go_ret
  all_goals (refine ⟨ret_int ?_, rfl⟩)
  all_goals unfold termV at *
  all_goals first | rfl | (rw [if_pos (by assumption)]; done) | (rw [if_pos (by assumption)]; simp only [wrap64]; omega) | (rw [if_neg (by omega)]; simp only [wrap64]; omega) | (rw [if_neg (by omega)]) | trace_state
end Go.Proofs.Ytkdlpbpaoemcaaa
