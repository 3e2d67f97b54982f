/- The laws of gains and volumes return true: the walks. -/
import Derived.Test.YtndppaldjfggbaaGain
namespace Go.Proofs.Ytndppaldjfggbaa
open Go.ChangeShapes Go.WideShapes Go.ChangeAt Go.RowKit
set_option linter.unusedVariables false

theorem sat_mono {a b : Int} (h : a ≤ b) : sat a ≤ sat b := by
  unfold sat; split <;> (try split) <;> (try split) <;> (try split) <;> omega
theorem applyG_in {x g : Int} (h1 : -8388608 ≤ x) (h2 : x ≤ 8388607) (h3 : 0 ≤ g) (h4 : g ≤ 262144) : applyG x g = sat ((x * g + 32768) / 65536) := by
  unfold applyG; rw [if_pos ⟨sampleB_iff.2 ⟨h1, h2⟩, gainB_iff.2 ⟨h3, h4⟩⟩]
theorem apply_one {x : Int} (h1 : -8388608 ≤ x) (h2 : x ≤ 8388607) : applyG x 65536 = x := by
  rw [applyG_in h1 h2 (by omega) (by omega), show (x * 65536 + 32768) / 65536 = x by omega, sat_id h1 h2]
theorem apply_zero {x : Int} (h1 : -8388608 ≤ x) (h2 : x ≤ 8388607) : applyG x 0 = 0 := by
  rw [applyG_in h1 h2 (by omega) (by omega)]; simp; rfl
theorem apply_up {x g h : Int} (h1 : 0 ≤ x) (h2 : x ≤ 8388607) (h3 : 0 ≤ g) (h4 : g ≤ h) (h5 : h ≤ 262144) : applyG x g ≤ applyG x h := by
  rw [applyG_in (by omega) h2 h3 (by omega), applyG_in (by omega) h2 (by omega) h5]
  have := Int.mul_le_mul_of_nonneg_left h4 h1
  exact sat_mono (by omega)
theorem apply_down {x g h : Int} (h1 : -8388608 ≤ x) (h2 : x ≤ 0) (h3 : 0 ≤ g) (h4 : g ≤ h) (h5 : h ≤ 262144) : applyG x h ≤ applyG x g := by
  rw [applyG_in h1 (by omega) h3 (by omega), applyG_in h1 (by omega) (by omega) h5]
  have := Int.mul_le_mul_of_nonpos_left h2 h4
  exact sat_mono (by omega)
theorem apply_bd (x g : Int) : -8388608 ≤ applyG x g ∧ applyG x g ≤ 8388607 := by
  unfold applyG; split
  · exact sat_bd _
  · omega

set_option maxHeartbeats 2000000 in
theorem gainUnit_walk (s g more : Int) (hs : -2147483648 ≤ s ∧ s ≤ 2147483647) (hg : 0 ≤ g ∧ g ≤ 65535) (hm : 0 ≤ more ∧ more ≤ 65535) (w : World) :
    Calls Try.prog 8 #[.int .i32 s, .int .u16 g, .int .u16 more] w fun e w' => e = .returned (.bool true) ∧ Below w.heap.size w w' := by
  obtain ⟨s1, s2⟩ := hs
  obtain ⟨g1, g2⟩ := hg
  obtain ⟨m1, m2⟩ := hm
  have hx := sat_bd s
  obtain ⟨x, hxx⟩ : ∃ x, sat s = x := ⟨_, rfl⟩
  rw [hxx] at hx
  obtain ⟨x1, x2⟩ := hx
  have hA := apply_bd x g
  have hB := apply_bd x (g + more)
  have hAB : (x < 0 ∨ applyG x g ≤ applyG x (g + more)) ∧ (0 < x ∨ applyG x (g + more) ≤ applyG x g) := by
    constructor
    · by_cases h : x < 0
      · exact .inl h
      · exact .inr (apply_up (by omega) x2 g1 (by omega) (by omega))
    · by_cases h : 0 < x
      · exact .inl h
      · exact .inr (apply_down x1 (by omega) g1 (by omega) (by omega))
  have cs := fun w => (rsat_any s w)
  have c1 := fun w => (apply_any x 65536 (by omega) w)
  have c0 := fun w => (apply_any x 0 (by omega) w)
  have ca := fun w => (apply_any x g (by omega) w)
  have cb := fun w => (apply_any x (g + more) (by omega) w)
  rw [apply_one x1 x2] at c1
  rw [apply_zero x1 x2] at c0
  rw [hxx] at cs
  obtain ⟨A, hAA⟩ : ∃ A, applyG x g = A := ⟨_, rfl⟩
  obtain ⟨B, hBB⟩ : ∃ B, applyG x (g + more) = B := ⟨_, rfl⟩
  rw [hAA] at hA hAB ca
  rw [hBB] at hB hAB cb
  obtain ⟨A1, A2⟩ := hA
  obtain ⟨B1, B2⟩ := hB
  obtain ⟨hAB1, hAB2⟩ := hAB
  have CS := hid cs
  have C1 := hid c1
  have C0 := hid c0
  have CA := hid ca
  have CB := hid cb
  clear cs c1 c0 ca cb hxx hAA hBB
  have key : (x < 0 ∧ B ≤ A) ∨ (x = 0 ∧ A ≤ B ∧ B ≤ A) ∨ (0 < x ∧ A ≤ B) := by omega
  clear hAB1 hAB2
  rcases key with ⟨k1, k2⟩ | ⟨rfl, k2, k3⟩ | ⟨k1, k2⟩
  all_goals
    go_enter Try.func8, Try.ntmps8
    go_wp2_with (first
      | (go_at_call 12; refine (sane_any w).mono ?_; rintro e w1 ⟨rfl, hb⟩; have HB := hid hb; clear hb)
      | (go_at_call 13; ((with_reducible refine (CS.out _).mono ?_); rintro e w2 ⟨rfl, rfl⟩))
      | (go_at_call 14; ((with_reducible refine (CA.out _).mono ?_); rintro e w2 ⟨rfl, rfl⟩))
      | (go_at_call 14; ((with_reducible refine (CB.out _).mono ?_); rintro e w2 ⟨rfl, rfl⟩))
      | (go_at_call 14; ((with_reducible refine (C1.out _).mono ?_); rintro e w2 ⟨rfl, rfl⟩))
      | (go_at_call 14; ((with_reducible refine (C0.out _).mono ?_); rintro e w2 ⟨rfl, rfl⟩)))
    go_ret
    exact ⟨ret_bool (by first | rfl | (simp; done) | (simp; omega)), HB.out⟩

theorem mulG_in {a b : Int} (h1 : 0 ≤ a) (h2 : a ≤ 65535) (h3 : 0 ≤ b) (h4 : b ≤ 65535) : mulG a b = (a * b + 32768) / 65536 ∧ 0 ≤ mulG a b ∧ mulG a b ≤ a := by
  unfold mulG; rw [if_pos ⟨gainB_iff.2 ⟨h1, by omega⟩, gainB_iff.2 ⟨h3, by omega⟩⟩]
  have p0 := Int.mul_nonneg h1 h3
  have p1 := Int.mul_le_mul_of_nonneg_left h4 h1
  omega
/-- a product with a gain of at most 1 keeps to the range -/
theorem small_div {x g : Int} (h1 : -8388608 ≤ x) (h2 : x ≤ 8388607) (h3 : 0 ≤ g) (h4 : g ≤ 65536) : -8388608 ≤ (x * g + 32768) / 65536 ∧ (x * g + 32768) / 65536 ≤ 8388607 := by
  by_cases h : 0 ≤ x
  · have p := Int.mul_le_mul_of_nonneg_left h4 h
    have p0 := Int.mul_nonneg h h3
    omega
  · have p := Int.mul_le_mul_of_nonpos_left (show x ≤ 0 by omega) h4
    have p0 := Int.mul_nonpos_of_nonpos_of_nonneg (show x ≤ 0 by omega) h3
    omega
theorem apply_small {x g : Int} (h1 : -8388608 ≤ x) (h2 : x ≤ 8388607) (h3 : 0 ≤ g) (h4 : g ≤ 65536) : applyG x g = (x * g + 32768) / 65536 := by
  have h := small_div h1 h2 h3 h4
  rw [applyG_in h1 h2 h3 (by omega), sat_id h.1 h.2]

theorem products {x a b : Int} (h1 : -8388608 ≤ x) (h2 : x ≤ 8388607) (a1 : 0 ≤ a) (a2 : a ≤ 65535) (b1 : 0 ≤ b) (b2 : b ≤ 65535) :
    -66 ≤ applyG (applyG x a) b - applyG x (mulG a b) ∧ applyG (applyG x a) b - applyG x (mulG a b) ≤ 66 := by
  obtain ⟨hm, hm0, hm1⟩ := mulG_in a1 a2 b1 b2
  have hy := apply_bd x a
  rw [apply_small hy.1 hy.2 b1 (by omega), apply_small h1 h2 hm0 (by omega)]
  rw [apply_small h1 h2 a1 (by omega)]
  obtain ⟨m, hmm⟩ : ∃ m, mulG a b = m := ⟨_, rfl⟩
  rw [hmm] at hm ⊢
  obtain ⟨y, hyy⟩ : ∃ y, (x * a + 32768) / 65536 = y := ⟨_, rfl⟩
  rw [hyy]
  have ey : 65536 * y ≤ x * a + 32768 ∧ x * a + 32768 < 65536 * y + 65536 := by omega
  have em : 65536 * m ≤ a * b + 32768 ∧ a * b + 32768 < 65536 * m + 65536 := by omega
  -- times b, times x
  have t1 : 65536 * y * b ≤ (x * a + 32768) * b := Int.mul_le_mul_of_nonneg_right ey.1 b1
  have t2 : (x * a + 32768) * b ≤ (65536 * y + 65535) * b := Int.mul_le_mul_of_nonneg_right (by omega) b1
  have e1 : 65536 * y * b = 65536 * (y * b) := Int.mul_assoc _ _ _
  have e2 : (x * a + 32768) * b = x * a * b + 32768 * b := Int.add_mul _ _ _
  have e3 : (65536 * y + 65535) * b = 65536 * (y * b) + 65535 * b := by rw [Int.add_mul, Int.mul_assoc]
  have e4 : x * a * b = x * (a * b) := Int.mul_assoc _ _ _
  rw [e1, e2, e4] at t1
  rw [e2, e3, e4] at t2
  have k : -(8388608 * 32768) ≤ 65536 * (x * m) - x * (a * b) ∧ 65536 * (x * m) - x * (a * b) ≤ 8388608 * 32768 := by
    have d1 : 65536 * m - a * b ≤ 32768 := by omega
    have d2 : -32767 ≤ 65536 * m - a * b := by omega
    obtain ⟨D, hD⟩ : ∃ D, 65536 * m - a * b = D := ⟨_, rfl⟩
    have eD : 65536 * (x * m) - x * (a * b) = x * D := by
      rw [← hD, Int.mul_sub, Int.mul_left_comm x 65536 m]
    rw [eD]
    rw [hD] at d1 d2
    by_cases hx : 0 ≤ x
    · have u := Int.mul_le_mul_of_nonneg_left d1 hx
      have v := Int.mul_le_mul_of_nonneg_left d2 hx
      omega
    · have u := Int.mul_le_mul_of_nonpos_left (show x ≤ 0 by omega) d1
      have v := Int.mul_le_mul_of_nonpos_left (show x ≤ 0 by omega) d2
      omega
  omega

theorem mulG_comm (a b : Int) : mulG a b = mulG b a := by
  unfold mulG
  rw [Int.mul_comm a b]
  by_cases h : gainB a = true ∧ gainB b = true
  · rw [if_pos h, if_pos h.symm]
  · rw [if_neg h, if_neg (fun k => h k.symm)]

set_option maxHeartbeats 2000000 in
theorem gainProducts_walk (s a b : Int) (hs : -2147483648 ≤ s ∧ s ≤ 2147483647) (ha : 0 ≤ a ∧ a ≤ 65535) (hb : 0 ≤ b ∧ b ≤ 65535) (w : World) :
    Calls Try.prog 9 #[.int .i32 s, .int .u16 a, .int .u16 b] w fun e w' => e = .returned (.bool true) ∧ Below w.heap.size w w' := by
  obtain ⟨s1, s2⟩ := hs
  obtain ⟨a1, a2⟩ := ha
  obtain ⟨b1, b2⟩ := hb
  have hx := sat_bd s
  obtain ⟨x, hxx⟩ : ∃ x, sat s = x := ⟨_, rfl⟩
  rw [hxx] at hx
  have hp := products hx.1 hx.2 a1 a2 b1 b2
  have hmi := mulG_in a1 a2 b1 b2
  have hy := apply_bd x a
  have hr1 := apply_bd (applyG x a) b
  have hr2 := apply_bd x (mulG a b)
  have cs := fun w => (rsat_any s w)
  have c1 := fun w => (apply_any x a (by omega) w)
  have c2 := fun w => (apply_any (applyG x a) b (by omega) w)
  have c3 := fun w => (apply_any x (mulG a b) (by omega) w)
  have m1 := fun w => (mul_any a b w)
  have m2 := fun w => (mul_any b a w)
  rw [hxx] at cs
  rw [← mulG_comm a b] at m2
  obtain ⟨y, hyy⟩ : ∃ y, applyG x a = y := ⟨_, rfl⟩
  obtain ⟨m, hmm⟩ : ∃ m, mulG a b = m := ⟨_, rfl⟩
  rw [hyy] at c1 c2 hp hy hr1
  rw [hmm] at c3 m1 m2 hp hr2 hmi
  obtain ⟨r1, hrr1⟩ : ∃ r, applyG y b = r := ⟨_, rfl⟩
  obtain ⟨r2, hrr2⟩ : ∃ r, applyG x m = r := ⟨_, rfl⟩
  rw [hrr1] at c2 hp hr1
  rw [hrr2] at c3 hp hr2
  obtain ⟨p1, p2⟩ := hp
  obtain ⟨hmq, mm0, mm1⟩ := hmi
  clear hmq
  obtain ⟨q1, q2⟩ := hr1
  obtain ⟨q3, q4⟩ := hr2
  have CS := hid cs
  have C1 := hid c1
  have C2 := hid c2
  have C3 := hid c3
  have M1 := hid m1
  have M2 := hid m2
  clear cs c1 c2 c3 m1 m2 hxx hyy hmm hrr1 hrr2 hy hx
  go_enter Try.func9, Try.ntmps9
  go_wp2_with (first
    | (go_at_call 12; refine (sane_any w).mono ?_; rintro e w1 ⟨rfl, hb⟩; have HB := hid hb; clear hb)
    | (go_at_call 13; ((with_reducible refine (CS.out _).mono ?_); rintro e w2 ⟨rfl, rfl⟩))
    | (go_at_call 14; ((with_reducible refine (C1.out _).mono ?_); rintro e w2 ⟨rfl, rfl⟩))
    | (go_at_call 14; ((with_reducible refine (C2.out _).mono ?_); rintro e w2 ⟨rfl, rfl⟩))
    | (go_at_call 14; ((with_reducible refine (C3.out _).mono ?_); rintro e w2 ⟨rfl, rfl⟩))
    | (go_at_call 16; ((with_reducible refine (M1.out _).mono ?_); rintro e w2 ⟨rfl, rfl⟩))
    | (go_at_call 16; ((with_reducible refine (M2.out _).mono ?_); rintro e w2 ⟨rfl, rfl⟩)))
  go_ret
  exact ⟨ret_bool (by first | rfl | (simp; done) | (simp; omega)), HB.out⟩

theorem vol_mono {u v : Int} (h : u ≤ v) : volG u ≤ volG v := by
  have c : 0 ≤ clampV u ∧ clampV u ≤ clampV v ∧ clampV v ≤ 100 := by unfold clampV; split <;> (try split) <;> (try split) <;> (try split) <;> omega
  unfold volG
  obtain ⟨p, hp⟩ : ∃ p, clampV u = p := ⟨_, rfl⟩
  obtain ⟨q, hq⟩ : ∃ q, clampV v = q := ⟨_, rfl⟩
  rw [hp, hq] at c
  rw [hp, hq]
  have e1 : p * p ≤ q * q := Int.mul_le_mul c.2.1 c.2.1 c.1 (by omega)
  have e2 : p * p * p ≤ q * q * q := Int.mul_le_mul e1 c.2.1 c.1 (Int.mul_nonneg (by omega) (by omega))
  omega
theorem vol_bd (v : Int) : 0 ≤ volG v ∧ volG v ≤ 65536 := by
  by_cases h : v ≤ 0
  · rw [vol_low h]; omega
  · by_cases h1 : 100 ≤ v
    · rw [vol_high h1]; omega
    · have := cube_bd (v := v) (by omega) (by omega)
      rw [vol_mid (by omega) (by omega)]; omega

set_option maxHeartbeats 2000000 in
theorem gainVolumes_walk (v : Int) (hv : -32768 ≤ v ∧ v ≤ 32767) (w : World) :
    Calls Try.prog 10 #[.int .i16 v] w fun e w' => e = .returned (.bool true) ∧ Below w.heap.size w w' := by
  obtain ⟨v1, v2⟩ := hv
  have ha := vol_bd v
  have hb := vol_bd (v + 1)
  have hm := vol_mono (u := v) (v := v + 1) (by omega)
  have c1 := fun w => (vol_any v w)
  have c2 := fun w => (vol_any (v + 1) w)
  have c3 := fun w => (vol_any 0 w)
  have c4 := fun w => (vol_any 100 w)
  rw [vol_low (by omega)] at c3
  rw [vol_high (by omega)] at c4
  obtain ⟨p, hp⟩ : ∃ p, volG v = p := ⟨_, rfl⟩
  obtain ⟨q, hq⟩ : ∃ p, volG (v + 1) = p := ⟨_, rfl⟩
  rw [hp] at c1 ha hm
  rw [hq] at c2 hb hm
  obtain ⟨p1, p2⟩ := ha
  obtain ⟨q1, q2⟩ := hb
  have C1 := hid c1
  have C2 := hid c2
  have C3 := hid c3
  have C4 := hid c4
  clear c1 c2 c3 c4 hp hq
  go_enter Try.func10, Try.ntmps10
  go_wp2_with (first
    | (go_at_call 12; refine (sane_any w).mono ?_; rintro e w1 ⟨rfl, hb⟩; have HB := hid hb; clear hb)
    | (go_at_call 18; ((with_reducible refine (C1.out _).mono ?_); rintro e w2 ⟨rfl, rfl⟩))
    | (go_at_call 18; ((with_reducible refine (C2.out _).mono ?_); rintro e w2 ⟨rfl, rfl⟩))
    | (go_at_call 18; ((with_reducible refine (C3.out _).mono ?_); rintro e w2 ⟨rfl, rfl⟩))
    | (go_at_call 18; ((with_reducible refine (C4.out _).mono ?_); rintro e w2 ⟨rfl, rfl⟩)))
  all_goals go_ret
  all_goals exact ⟨ret_bool (by first | rfl | (simp; done) | (simp; omega)), HB.out⟩
end Go.Proofs.Ytndppaldjfggbaa
