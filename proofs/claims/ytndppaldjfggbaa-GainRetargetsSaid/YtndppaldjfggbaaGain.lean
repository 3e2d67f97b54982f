/- What samples, gains and volumes are: no statement is proved here. -/
import Derived.Test.YtndppaldjfggbaaBase
import Derived.WalkSmall
namespace Go.Proofs.Ytndppaldjfggbaa
open Go.ChangeShapes Go.WideShapes Go.ChangeAt Go.RowKit
set_option linter.unusedVariables false

def sat (n : Int) : Int := if n < -8388608 then -8388608 else if 8388607 < n then 8388607 else n
def gainB (n : Int) : Bool := decide (0 ≤ n ∧ n ≤ 262144)
theorem sat_id {n : Int} (h : -8388608 ≤ n) (h2 : n ≤ 8388607) : sat n = n := by unfold sat; rw [if_neg (by omega), if_neg (by omega)]
theorem sat_bd (n : Int) : -8388608 ≤ sat n ∧ sat n ≤ 8388607 := by unfold sat; split <;> (try split) <;> omega

theorem sat_any (n : Int) (w : World) : Calls Try.prog 38 #[.int .i64 n] w fun e w' => e = .returned (.int .i32 (sat n)) ∧ w = w' := by
  go_enter Try.func38, Try.ntmps38
  go_wp2
  all_goals (go_ret; exact ⟨ret_int (by unfold sat; split <;> (try split) <;> omega), rfl⟩)
theorem rsat_any (n : Int) (w : World) : Calls Try.prog 13 #[.int .i64 n] w fun e w' => e = .returned (.int .i32 (sat n)) ∧ w = w' := by
  go_enter Try.func13, Try.ntmps13
  go_wp2
  all_goals (go_ret; exact ⟨ret_int (by unfold sat; split <;> (try split) <;> omega), rfl⟩)
theorem ret_b {a b : Bool} (h : a = b) : Ending.returned (.bool a) = .returned (.bool b) := by rw [h]
theorem isGain_any (n : Int) (w : World) : Calls Try.prog 37 #[.int .i64 n] w fun e w' => e = .returned (.bool (gainB n)) ∧ w = w' := by
  go_enter Try.func37, Try.ntmps37
  go_wp2
  all_goals (go_ret; exact ⟨ret_b (by unfold gainB; simp; omega), rfl⟩)
theorem rgain_any (n : Int) (w : World) : Calls Try.prog 39 #[.int .i64 n] w fun e w' => e = .returned (.bool (gainB n)) ∧ w = w' := by
  go_enter Try.func39, Try.ntmps39
  go_wp2
  all_goals (go_ret; exact ⟨ret_b (by unfold gainB; simp; omega), rfl⟩)
def sampleB (n : Int) : Bool := decide (-8388608 ≤ n ∧ n ≤ 8388607)
theorem isSample_any (n : Int) (hn : -2147483648 ≤ n ∧ n ≤ 2147483647) (w : World) : Calls Try.prog 36 #[.int .i32 n] w fun e w' => e = .returned (.bool (sampleB n)) ∧ w = w' := by
  obtain ⟨h1, h2⟩ := hn
  go_enter Try.func36, Try.ntmps36
  go_wp2_with (go_at_call 38; refine (sat_any _ _).mono ?_; rintro e w' ⟨rfl, rfl⟩)
  all_goals (go_ret; exact ⟨ret_b (by unfold sampleB sat; rw [Bool.eq_iff_iff]; simp; split <;> (try split) <;> omega), rfl⟩)

def applyG (s g : Int) : Int := if sampleB s = true ∧ gainB g = true then sat ((s * g + 32768) / 65536) else 0
def mulG (a b : Int) : Int := if gainB a = true ∧ gainB b = true then min ((a * b + 32768) / 65536) 262144 else 0
def clampV (v : Int) : Int := if v < 0 then 0 else if 100 < v then 100 else v
def volG (v : Int) : Int := clampV v * clampV v * clampV v * 65536 / 1000000

theorem gainB_iff {n : Int} : gainB n = true ↔ 0 ≤ n ∧ n ≤ 262144 := by unfold gainB; simp
theorem sampleB_iff {n : Int} : sampleB n = true ↔ -8388608 ≤ n ∧ n ≤ 8388607 := by unfold sampleB; simp
theorem prod_bd {s g a b c : Int} (h1 : -a ≤ s) (h2 : s ≤ a) (h3 : 0 ≤ g) (h4 : g ≤ b) (hc : a * b = c) (ha : 0 ≤ a) : -c ≤ s * g ∧ s * g ≤ c := by
  have e1 : s * g ≤ a * g := Int.mul_le_mul_of_nonneg_right h2 h3
  have e2 : a * g ≤ a * b := Int.mul_le_mul_of_nonneg_left h4 ha
  have e3 : -a * g ≤ s * g := Int.mul_le_mul_of_nonneg_right h1 h3
  have e4 : -a * g = -(a * g) := Int.neg_mul a g
  omega

set_option maxHeartbeats 1000000 in
theorem apply_any (s g : Int) (hs : -2147483648 ≤ s ∧ s ≤ 2147483647) (w : World) : Calls Try.prog 14 #[.int .i32 s, .int .i64 g] w fun e w' => e = .returned (.int .i32 (applyG s g)) ∧ w = w' := by
  have H := hid hs
  unfold applyG
  cases h1 : sampleB s
  · rw [if_neg (by simp)]
    clear hs
    go_enter Try.func14, Try.ntmps14
    go_wp2_with (first | (go_at_call 36; refine (isSample_any _ H.out _).mono ?_; rintro e w' ⟨rfl, rfl⟩) | (go_at_call 37; refine (isGain_any _ _).mono ?_; rintro e w' ⟨rfl, rfl⟩))
    all_goals (go_ret; exact ⟨rfl, rfl⟩)
  · cases h2 : gainB g
    · rw [if_neg (by simp)]
      clear hs
      go_enter Try.func14, Try.ntmps14
      go_wp2_with (first | (go_at_call 36; refine (isSample_any _ H.out _).mono ?_; rintro e w' ⟨rfl, rfl⟩) | (go_at_call 37; refine (isGain_any _ _).mono ?_; rintro e w' ⟨rfl, rfl⟩))
      all_goals (go_ret; exact ⟨rfl, rfl⟩)
    · rw [if_pos (by simp)]
      have hg := gainB_iff.1 h2
      have hs2 := sampleB_iff.1 h1
      obtain ⟨b1, b2⟩ := prod_bd (s := s) (a := 8388608) (b := 262144) (c := 2199023255552) (by omega) (by omega) hg.1 hg.2 (by omega) (by omega)
      obtain ⟨k1, k2⟩ := hs2
      clear hs hg
      go_enter Try.func14, Try.ntmps14
      go_wp2_with (first | (go_at_call 36; refine (isSample_any _ H.out _).mono ?_; rintro e w' ⟨rfl, rfl⟩) | (go_at_call 37; refine (isGain_any _ _).mono ?_; rintro e w' ⟨rfl, rfl⟩) | (go_at_call 38; refine (sat_any _ _).mono ?_; rintro e w' ⟨rfl, rfl⟩))
      go_ret
      exact ⟨rfl, rfl⟩

set_option maxHeartbeats 1000000 in
theorem rapply_any (s g : Int) (hs : -2147483648 ≤ s ∧ s ≤ 2147483647) (w : World) : Calls Try.prog 15 #[.int .i32 s, .int .i64 g] w fun e w' => e = .returned (.int .i32 (applyG s g)) ∧ w = w' := by
  obtain ⟨k1, k2⟩ := hs
  unfold applyG
  by_cases h1 : s < -8388608
  · rw [if_neg (by rw [sampleB_iff]; omega)]
    go_enter Try.func15, Try.ntmps15
    go_wp2_with (go_at_call 39; refine (rgain_any _ _).mono ?_; rintro e w' ⟨rfl, rfl⟩)
    go_ret; exact ⟨rfl, rfl⟩
  by_cases h3 : 8388607 < s
  · rw [if_neg (by rw [sampleB_iff]; omega)]
    go_enter Try.func15, Try.ntmps15
    go_wp2_with (go_at_call 39; refine (rgain_any _ _).mono ?_; rintro e w' ⟨rfl, rfl⟩)
    go_ret; exact ⟨rfl, rfl⟩
  · cases h2 : gainB g
    · rw [if_neg (by simp)]
      go_enter Try.func15, Try.ntmps15
      go_wp2_with (go_at_call 39; refine (rgain_any _ _).mono ?_; rintro e w' ⟨rfl, rfl⟩)
      all_goals (go_ret; exact ⟨rfl, rfl⟩)
    · rw [if_pos ⟨by rw [sampleB_iff]; omega, rfl⟩]
      have hg := gainB_iff.1 h2
      obtain ⟨b1, b2⟩ := prod_bd (s := s) (a := 8388608) (b := 262144) (c := 2199023255552) (by omega) (by omega) hg.1 hg.2 (by omega) (by omega)
      clear hg
      go_enter Try.func15, Try.ntmps15
      go_wp2_with (first | (go_at_call 39; refine (rgain_any _ _).mono ?_; rintro e w' ⟨rfl, rfl⟩) | (go_at_call 13; refine (rsat_any _ _).mono ?_; rintro e w' ⟨rfl, rfl⟩))
      go_ret
      exact ⟨rfl, rfl⟩

set_option maxHeartbeats 1000000 in
theorem mul_any (x y : Int) (w : World) : Calls Try.prog 16 #[.int .i64 x, .int .i64 y] w fun e w' => e = .returned (.int .i64 (mulG x y)) ∧ w = w' := by
  unfold mulG
  cases h1 : gainB x
  · rw [if_neg (by simp)]
    go_enter Try.func16, Try.ntmps16
    go_wp2_with (go_at_call 37; refine (isGain_any _ _).mono ?_; rintro e w' ⟨rfl, rfl⟩)
    all_goals (go_ret; exact ⟨rfl, rfl⟩)
  · cases h2 : gainB y
    · rw [if_neg (by simp)]
      go_enter Try.func16, Try.ntmps16
      go_wp2_with (go_at_call 37; refine (isGain_any _ _).mono ?_; rintro e w' ⟨rfl, rfl⟩)
      all_goals (go_ret; exact ⟨rfl, rfl⟩)
    · rw [if_pos (by simp)]
      have hg := gainB_iff.1 h2
      have hg1 := gainB_iff.1 h1
      obtain ⟨b1, b2⟩ := prod_bd (s := x) (a := 262144) (b := 262144) (c := 68719476736) (by omega) (by omega) hg.1 hg.2 (by omega) (by omega)
      have b0 : 0 ≤ x * y := Int.mul_nonneg hg1.1 hg.1
      clear hg hg1 b1
      go_enter Try.func16, Try.ntmps16
      go_wp2_with (go_at_call 37; refine (isGain_any _ _).mono ?_; rintro e w' ⟨rfl, rfl⟩)
      all_goals (go_ret; exact ⟨ret_int (by omega), rfl⟩)

set_option maxHeartbeats 1000000 in
theorem rmul_any (x y : Int) (w : World) : Calls Try.prog 17 #[.int .i64 x, .int .i64 y] w fun e w' => e = .returned (.int .i64 (mulG x y)) ∧ w = w' := by
  unfold mulG
  cases h1 : gainB x
  · rw [if_neg (by simp)]
    go_enter Try.func17, Try.ntmps17
    go_wp2_with (go_at_call 39; refine (rgain_any _ _).mono ?_; rintro e w' ⟨rfl, rfl⟩)
    all_goals (go_ret; exact ⟨rfl, rfl⟩)
  · cases h2 : gainB y
    · rw [if_neg (by simp)]
      go_enter Try.func17, Try.ntmps17
      go_wp2_with (go_at_call 39; refine (rgain_any _ _).mono ?_; rintro e w' ⟨rfl, rfl⟩)
      all_goals (go_ret; exact ⟨rfl, rfl⟩)
    · rw [if_pos (by simp)]
      have hg := gainB_iff.1 h2
      have hg1 := gainB_iff.1 h1
      obtain ⟨b1, b2⟩ := prod_bd (s := x) (a := 262144) (b := 262144) (c := 68719476736) (by omega) (by omega) hg.1 hg.2 (by omega) (by omega)
      have b0 : 0 ≤ x * y := Int.mul_nonneg hg1.1 hg.1
      clear hg hg1 b1
      go_enter Try.func17, Try.ntmps17
      go_wp2_with (go_at_call 39; refine (rgain_any _ _).mono ?_; rintro e w' ⟨rfl, rfl⟩)
      all_goals (go_ret; exact ⟨ret_int (by omega), rfl⟩)

theorem cube_bd {v : Int} (h0 : 0 ≤ v) (h1 : v ≤ 100) : 0 ≤ v * v ∧ v * v ≤ 10000 ∧ 0 ≤ v * v * v ∧ v * v * v ≤ 1000000 := by
  have a := prod_bd (s := v) (g := v) (a := 100) (b := 100) (c := 10000) (by omega) (by omega) h0 h1 (by omega) (by omega)
  have a0 := Int.mul_nonneg h0 h0
  have b := prod_bd (s := v * v) (g := v) (a := 10000) (b := 100) (c := 1000000) (by omega) (by omega) h0 h1 (by omega) (by omega)
  have b0 := Int.mul_nonneg a0 h0
  omega

theorem vol_low {v : Int} (h : v ≤ 0) : volG v = 0 := by
  have e : clampV v = 0 := by unfold clampV; split <;> (try split) <;> omega
  unfold volG; rw [e]; rfl
theorem vol_high {v : Int} (h : 100 ≤ v) : volG v = 65536 := by
  have e : clampV v = 100 := by unfold clampV; split <;> (try split) <;> omega
  unfold volG; rw [e]; rfl
theorem vol_mid {v : Int} (h0 : 0 ≤ v) (h1 : v ≤ 100) : volG v = v * v * v * 65536 / 1000000 := by unfold volG clampV; rw [if_neg (by omega), if_neg (by omega)]

theorem w64 {n : Int} (h1 : -9223372036854775808 ≤ n) (h2 : n ≤ 9223372036854775807) : wrap64 n = n := by unfold wrap64; omega

theorem vol_any (v : Int) (w : World) : Calls Try.prog 18 #[.int .i64 v] w fun e w' => e = .returned (.int .i64 (volG v)) ∧ w = w' := by
  by_cases h : v ≤ 0
  · rw [vol_low h]
    go_enter Try.func18, Try.ntmps18
    go_wp2
    all_goals (go_ret; first | exact ⟨rfl, rfl⟩ | exact ⟨ret_int (by decide +kernel), rfl⟩ | (have e0 : v = 0 := (by omega); subst e0; exact ⟨ret_int (by decide +kernel), rfl⟩))
  by_cases h1 : 100 ≤ v
  · rw [vol_high h1]
    go_enter Try.func18, Try.ntmps18
    go_wp2
    all_goals (go_ret; first | exact ⟨rfl, rfl⟩ | exact ⟨ret_int (by decide +kernel), rfl⟩ | (have e0 : v = 100 := (by omega); subst e0; exact ⟨ret_int (by decide +kernel), rfl⟩))
  · rw [vol_mid (by omega) (by omega)]
    have hc := hid (cube_bd (v := v) (by omega) (by omega))
    have h2 : 0 < v := by omega
    have h3 : v < 100 := by omega
    clear h h1
    go_enter Try.func18, Try.ntmps18
    go_wp2
    go_ret
    obtain ⟨c1, c2, c3, c4⟩ := hc.out
    exact ⟨ret_int (by rw [w64 (n := v * v) (by omega) (by omega), w64 (n := v * v * v) (by omega) (by omega), w64 (n := v * v * v * 65536) (by omega) (by omega), Int.tdiv_eq_ediv_of_nonneg (by omega), w64 (by omega) (by omega)]), rfl⟩

theorem rvol_any (v : Int) (w : World) : Calls Try.prog 19 #[.int .i64 v] w fun e w' => e = .returned (.int .i64 (volG v)) ∧ w = w' := by
  by_cases h : v ≤ 0
  · rw [vol_low h]
    go_enter Try.func19, Try.ntmps19
    go_wp2
    all_goals (go_ret; first | exact ⟨rfl, rfl⟩ | exact ⟨ret_int (by decide +kernel), rfl⟩ | (have e0 : v = 0 := (by omega); subst e0; exact ⟨ret_int (by decide +kernel), rfl⟩))
  by_cases h1 : 100 ≤ v
  · rw [vol_high h1]
    go_enter Try.func19, Try.ntmps19
    go_wp2
    all_goals (go_ret; first | exact ⟨rfl, rfl⟩ | exact ⟨ret_int (by decide +kernel), rfl⟩ | (have e0 : v = 100 := (by omega); subst e0; exact ⟨ret_int (by decide +kernel), rfl⟩))
  · rw [vol_mid (by omega) (by omega)]
    have hc := hid (cube_bd (v := v) (by omega) (by omega))
    have h2 : 0 < v := by omega
    have h3 : v < 100 := by omega
    clear h h1
    go_enter Try.func19, Try.ntmps19
    go_wp2
    go_ret
    obtain ⟨c1, c2, c3, c4⟩ := hc.out
    exact ⟨ret_int (by rw [w64 (n := v * v) (by omega) (by omega), w64 (n := v * v * v) (by omega) (by omega), w64 (n := v * v * v * 65536) (by omega) (by omega), Int.tdiv_eq_ediv_of_nonneg (by omega), w64 (by omega) (by omega)]), rfl⟩

/-! ramps -/
theorem floor_eq {n b : Int} (hb : 0 < b) : (n.tmod b < 0 → n.tdiv b - 1 = n / b) ∧ (¬ n.tmod b < 0 → n.tdiv b = n / b) := by
  have hm := Int.emod_nonneg n (show b ≠ 0 by omega)
  have hm2 := Int.emod_lt_of_pos n hb
  rw [Int.tmod_eq_emod, Int.tdiv_eq_ediv]
  split
  · exact ⟨fun h => by omega, fun _ => by omega⟩
  · have hs : b.sign = 1 := Int.sign_eq_one_of_pos hb
    rw [hs]
    exact ⟨fun _ => by omega, fun h => by omega⟩
theorem div_bd {n b c : Int} (hb : 0 < b) (h1 : -c ≤ n) (h2 : n ≤ c) : -c ≤ n / b ∧ n / b ≤ c := by
  by_cases h : 0 ≤ n
  · have a := Int.ediv_le_self b h
    have a0 := Int.ediv_nonneg h (Int.le_of_lt hb)
    omega
  · have a : n ≤ n / b := Int.le_ediv_of_mul_le hb (by
      have : n * b ≤ n * 1 := Int.mul_le_mul_of_nonpos_left (by omega) (by omega)
      omega)
    have a2 : n / b < 0 := Int.ediv_neg_of_neg_of_pos (by omega) hb
    omega
theorem floor_any (n b : Int) (hb : 0 < b) (hb2 : b ≤ 1099511627776) (h1 : -1125899906842624 ≤ n) (h2 : n ≤ 1125899906842624) (w : World) :
    Calls Try.prog 51 #[.int .i64 n, .int .i64 b] w fun e w' => e = .returned (.int .i64 (n / b)) ∧ w = w' := by
  have hf := hid (floor_eq (n := n) hb)
  have hd := hid (div_bd hb h1 h2)
  go_enter Try.func51, Try.ntmps51
  go_wp2
  · have ht : n.tmod b < 0 := by assumption
    go_ret
    exact ⟨ret_int (by rw [hf.out.1 ht, w64 (by have := hd.out; omega) (by have := hd.out; omega)]), rfl⟩
  · have ht : 0 ≤ n.tmod b := by assumption
    go_ret
    exact ⟨ret_int (by rw [hf.out.2 (by omega)]), rfl⟩
def validG (f t n at' : Int) : Bool := gainB f && (gainB t && decide (0 ≤ n ∧ n ≤ 4194304 ∧ 0 ≤ at' ∧ at' ≤ n))
theorem validG_iff {f t n a : Int} : validG f t n a = true ↔ (0 ≤ f ∧ f ≤ 262144) ∧ (0 ≤ t ∧ t ≤ 262144) ∧ 0 ≤ n ∧ n ≤ 4194304 ∧ 0 ≤ a ∧ a ≤ n := by
  unfold validG gainB; simp
theorem valid_any (f t n a : Int) (w : World) : Calls Try.prog 26 #[.agg #[.int .i64 f, .int .i64 t, .int .i64 n, .int .i64 a]] w fun e w' => e = .returned (.bool (validG f t n a)) ∧ Below w.heap.size w w' := by
  go_enter Try.func26, Try.ntmps26
  go_wp2_with (go_at_call 37; refine (isGain_any _ _).mono ?_; rintro e w' ⟨rfl, rfl⟩)
  all_goals (go_ret; exact ⟨ret_b (by unfold validG; simp [*]; try omega), (Below.refl _ _).alloc (Nat.le_refl _) _⟩)
theorem course_any (a b c d : Int) (w : World) : Calls Try.prog 40 #[.agg #[.int .i64 a, .int .i64 b, .int .i64 c, .int .i64 d]] w fun e w' => e = .returned (.agg #[.int .i64 d, .int .i64 c, .int .i64 a, .int .i64 b]) ∧ Below w.heap.size w w' := by
  go_enter Try.func40, Try.ntmps40
  go_wp2
  exact bodyPost_ret (v := .agg #[.int .i64 d, .int .i64 c, .int .i64 a, .int .i64 b]) (by simp [results, Try.results40, go_sem]) rfl ⟨rfl, ((Below.refl _ _).alloc (Nat.le_refl _) _).alloc (by simp) _⟩
def atG (f t n a i : Int) : Int := if n - a ≤ i then t else f + (t - f) * (a + i) / n
theorem floor_q (n b : Int) (hb : 0 < b) (hb2 : b ≤ 1099511627776) (h1 : -1125899906842624 ≤ n) (h2 : n ≤ 1125899906842624) (w : World) :
    Calls Try.prog 51 #[.int .i64 n, .int .i64 b] w fun e w' => e = .returned (.int .i64 (n / b)) ∧ w' = w :=
  (floor_any n b hb hb2 h1 h2 w).mono fun _ _ ⟨h, k⟩ => ⟨h, k.symm⟩
set_option maxHeartbeats 1000000 in
theorem cgain_any (f t n a i : Int) (hv : validG f t n a = true) (hi : 0 ≤ i) (hi2 : i ≤ 9223372036854775807) (w : World) :
    Calls Try.prog 41 #[.agg #[.int .i64 a, .int .i64 n, .int .i64 f, .int .i64 t], .int .i64 i] w fun e w' => e = .returned (.int .i64 (atG f t n a i)) ∧ Below w.heap.size w w' := by
  obtain ⟨⟨f1, f2⟩, ⟨t1, t2⟩, n1, n2, a1, a2⟩ := validG_iff.1 hv
  unfold atG
  by_cases h : n - a ≤ i
  · rw [if_pos h]
    go_enter Try.func41, Try.ntmps41
    go_wp2
    go_ret
    exact ⟨rfl, ((Below.refl _ _).alloc (Nat.le_refl _) _).alloc (by simp) _⟩
  · rw [if_neg h]
    have hp := prod_bd (s := t - f) (g := a + i) (a := 262144) (b := 4194304) (c := 1099511627776) (by omega) (by omega) (by omega) (by omega) (by omega) (by omega)
    obtain ⟨p1, p2⟩ := hp
    obtain ⟨P, hP⟩ : ∃ P, (t - f) * (a + i) = P := ⟨_, rfl⟩
    have hd := div_bd (n := P) (b := n) (c := 1099511627776) (by omega) (by omega) (by omega)
    obtain ⟨d1, d2⟩ := hd
    rw [hP] at p1 p2
    have hn : 0 < n := by omega
    rw [hP]
    go_enter Try.func41, Try.ntmps41
    go_wp2
    go_quiet ((go_at_call 51; exact Calls.quiet_of_same (floor_q _ _ hn (by omega) (by omega) (by omega) _)))
    go_wp2
    go_ret
    exact ⟨rfl, below_drewN (((Below.refl _ _).alloc (Nat.le_refl _) _).alloc (by simp) _) _⟩
def atAny (f t n a i : Int) : Int := if validG f t n a = true ∧ 0 ≤ i then atG f t n a i else 0
set_option maxHeartbeats 1000000 in
theorem at_any (f t n a i : Int) (hi2 : i ≤ 9223372036854775807) (w : World) :
    Calls Try.prog 22 #[.agg #[.int .i64 f, .int .i64 t, .int .i64 n, .int .i64 a], .int .i64 i] w fun e w' => e = .returned (.int .i64 (atAny f t n a i)) ∧ Below w.heap.size w w' := by
  unfold atAny
  cases hv : validG f t n a
  · rw [if_neg (by simp)]
    go_enter Try.func22, Try.ntmps22
    go_wp2_with (go_at_call 26; refine (valid_any _ _ _ _ _).mono ?_; rintro e w1 ⟨rfl, hb⟩; obtain ⟨hc, hf⟩ := bcell hb)
    go_ret
    exact ⟨rfl, ((Below.refl _ _).alloc (Nat.le_refl _) _).trans (hb.mono (by simp))⟩
  · by_cases hi : 0 ≤ i
    · rw [if_pos ⟨rfl, hi⟩]
      have HV := hid hv
      go_enter Try.func22, Try.ntmps22
      go_wp2_with (first
        | (go_at_call 26; refine (valid_any _ _ _ _ _).mono ?_; rintro e w1 ⟨rfl, hb⟩; obtain ⟨hc, hf⟩ := bcell hb; have HB := hid hb; clear hb)
        | (go_at_call 40; refine (course_any _ _ _ _ _).mono ?_; rintro e w2 ⟨rfl, hb⟩; have HB2 := hid hb; clear hb)
        | (go_at_call 41; refine (cgain_any f t n a i HV.out hi hi2 _).mono ?_; rintro e w3 ⟨rfl, hb⟩; have HB3 := hid hb; clear hb))
      go_ret
      exact ⟨rfl, (((Below.refl _ _).alloc (Nat.le_refl _) _).trans (HB.out.mono (by simp))).trans ((HB2.out.mono (by have := HB.out.size; simp at this; omega)).trans (HB3.out.mono (by have := HB.out.size; have := HB2.out.size; simp at *; omega)))⟩
    · rw [if_neg (by simp; omega)]
      go_enter Try.func22, Try.ntmps22
      go_wp2_with (go_at_call 26; refine (valid_any _ _ _ _ _).mono ?_; rintro e w1 ⟨rfl, hb⟩; obtain ⟨hc, hf⟩ := bcell hb)
      go_ret
      exact ⟨rfl, ((Below.refl _ _).alloc (Nat.le_refl _) _).trans (hb.mono (by simp))⟩
theorem vol50 (w : World) : Calls Try.prog 18 #[.int .i64 50] w fun e w' => e = .returned (.int .i64 8192) ∧ w = w' :=
  (vol_any 50 w).mono fun _ _ ⟨h, k⟩ => ⟨h.trans (ret_int (by decide +kernel)), k⟩
theorem at1 (w : World) : Calls Try.prog 22 #[.agg #[.int .i64 0, .int .i64 65536, .int .i64 4, .int .i64 0], .int .i64 1] w fun e w' => e = .returned (.int .i64 16384) ∧ Below w.heap.size w w' :=
  (at_any 0 65536 4 0 1 (by omega) w).mono fun _ _ ⟨h, k⟩ => ⟨h.trans (ret_int (by decide +kernel)), k⟩
theorem at4 (w : World) : Calls Try.prog 22 #[.agg #[.int .i64 0, .int .i64 65536, .int .i64 4, .int .i64 0], .int .i64 4] w fun e w' => e = .returned (.int .i64 65536) ∧ Below w.heap.size w w' :=
  (at_any 0 65536 4 0 4 (by omega) w).mono fun _ _ ⟨h, k⟩ => ⟨h.trans (ret_int (by decide +kernel)), k⟩
theorem apply1 (w : World) : Calls Try.prog 14 #[.int .i32 1000, .int .i64 32768] w fun e w' => e = .returned (.int .i32 500) ∧ w = w' :=
  (apply_any 1000 32768 (by omega) w).mono fun _ _ ⟨h, k⟩ => ⟨h.trans (ret_int (by decide +kernel)), k⟩
theorem mul7 (w : World) : Calls Try.prog 16 #[.int .i64 65536, .int .i64 7] w fun e w' => e = .returned (.int .i64 7) ∧ w = w' :=
  (mul_any 65536 7 w).mono fun _ _ ⟨h, k⟩ => ⟨h.trans (ret_int (by decide +kernel)), k⟩
theorem valid1 (w : World) : Calls Try.prog 26 #[.agg #[.int .i64 0, .int .i64 65536, .int .i64 4, .int .i64 0]] w fun e w' => e = .returned (.bool true) ∧ Below w.heap.size w w' :=
  (valid_any 0 65536 4 0 w).mono fun _ _ ⟨h, k⟩ => ⟨h.trans (ret_b (by decide +kernel)), k⟩
set_option maxHeartbeats 1000000 in
theorem sane_any (w : World) : Calls Try.prog 12 #[] w fun e w' => e = .returned (.bool true) ∧ Below w.heap.size w w' := by
  go_enter Try.func12, Try.ntmps12
  go_wp2_with (first
    | (go_at_call 18; ((with_reducible refine (vol50 _).mono ?_); rintro e w1 ⟨rfl, rfl⟩))
    | (go_at_call 22; ((with_reducible refine (at1 _).mono ?_); rintro e w1 ⟨rfl, hb⟩; obtain ⟨hc, hf⟩ := bcell hb; have HB := hid hb; clear hb; have hz : w.heap.size < w1.heap.size := (by have := HB.out.size; simp at this; omega)))
    | (go_at_call 22; ((with_reducible refine (at4 _).mono ?_); rintro e w2 ⟨rfl, hb⟩; obtain ⟨hc2, hf2⟩ := bcell hb; have HB2 := hid hb; clear hb; have hz2 : w.heap.size < w2.heap.size := (by have := HB2.out.size; omega)))
    | (go_at_call 14; ((with_reducible refine (apply1 _).mono ?_); rintro e w3 ⟨rfl, rfl⟩))
    | (go_at_call 16; ((with_reducible refine (mul7 _).mono ?_); rintro e w3 ⟨rfl, rfl⟩))
    | (go_at_call 26; ((with_reducible refine (valid1 _).mono ?_); rintro e w3 ⟨rfl, hb⟩; have HB3 := hid hb; clear hb)))
  go_ret
  exact ⟨rfl, ((((Below.refl _ _).alloc (Nat.le_refl _) _).trans (HB.out.mono (by simp))).trans (HB2.out.mono (by omega))).trans (HB3.out.mono (by omega))⟩
end Go.Proofs.Ytndppaldjfggbaa
