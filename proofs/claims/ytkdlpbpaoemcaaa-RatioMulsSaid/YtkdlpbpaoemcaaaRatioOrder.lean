/- The law of the order of two ratios. -/
import Derived.Test.YtkdlpbpaoemcaaaRatioMul
import Derived.Test.YtkdlpbpaoemcaaaRatio
import Derived.Outline
namespace Go.Proofs.Ytkdlpbpaoemcaaa
open Go.ChangeShapes Go.WideShapes Go.ChangeAt Go.RowKit
set_option linter.unusedVariables false
set_option linter.unusedSimpArgs false

set_option maxHeartbeats 4000000 in
theorem inv_any (n d : Int) (h : ratV n d = true) (w : World) :
    Calls Try.prog 18 #[.agg #[.int .i64 n, .int .i64 d]] w fun e w' => e = .returned (.tuple #[.agg #[.int .i64 d, .int .i64 n], .int .i64 0]) ∧ Below w.heap.size w w' := by
  have c1 := hid (fun w => ratv_any n d w)
  rw [h] at c1
  clear h
  go_enter Try.func18, Try.ntmps18
  go_wp2_with fail
  (with_reducible refine (c1.out _).mono ?_); rintro e w1 ⟨rfl, hb⟩; have HL := hid (Lv.kept (Lv.alloc (vs := [.int .i64 0, .int .i64 0]) (T := 23) (Lv.alloc (vs := [.int .i64 n, .int .i64 d]) (T := 23) (Lv.start w))) hb); clear hb
  have hL := HL.out.facts
  simp only [liveAt, cellsAt, and_true, Nat.zero_add, Nat.reduceAdd, World.size_alloc] at hL
  have hbl := HL.out.below
  have hz2 := HL.out.lt
  simp only [World.size_alloc] at hz2
  clear c1
  go_wp2
  all_goals first
    | (refine bodyPost_ret (by simp [results, Try.results18, go_sem, *]; try rfl) rfl ?_; exact ⟨rfl, by go_grown⟩)
    | trace_state
theorem dvd_gcd1 {a b c : Int} (g : Int.gcd a b = 1) (h : a ∣ c * b) : a ∣ c := by
  have h1 : a.natAbs ∣ c.natAbs * b.natAbs := by rw [← Int.natAbs_mul]; exact Int.natAbs_dvd_natAbs.2 h
  exact Int.natAbs_dvd_natAbs.1 (Nat.Coprime.dvd_of_dvd_mul_right (show Nat.gcd a.natAbs b.natAbs = 1 from g) h1)
theorem cross_eq {a b c d : Int} (ha : 1 ≤ a) (hb : 1 ≤ b) (hc : 1 ≤ c) (hd : 1 ≤ d) (g : Int.gcd a b = 1) (g2 : Int.gcd c d = 1) (h : a * d = c * b) : a = c ∧ b = d := by
  have h1 : a ∣ c := by
    have : a ∣ c * b := ⟨d, h.symm⟩
    exact dvd_gcd1 g this
  have h2 : c ∣ a := by
    have : c ∣ a * d := ⟨b, h⟩
    exact dvd_gcd1 g2 this
  have e : a = c := Int.le_antisymm (Int.le_of_dvd (by omega) h1) (Int.le_of_dvd (by omega) h2)
  subst e
  refine ⟨rfl, ?_⟩
  have := Int.eq_of_mul_eq_mul_left (by omega : a ≠ 0) h
  exact this.symm
theorem cross_le {a b c d n : Int} (hb : 1 ≤ b) (hd : 1 ≤ d) (hn : 0 ≤ n) (h : a * d ≤ c * b) : n * a / b ≤ n * c / d := by
  rw [Int.le_ediv_iff_mul_le (by omega)]
  have q1 : n * a / b * b ≤ n * a := Int.ediv_mul_le _ (by omega)
  have q2 : n * a / b * b * d ≤ n * a * d := Int.mul_le_mul_of_nonneg_right q1 (by omega)
  have q3 : n * (a * d) ≤ n * (c * b) := Int.mul_le_mul_of_nonneg_left h hn
  have q4 : (n * a / b * d) * b ≤ (n * c) * b := by
    rw [Int.mul_right_comm, Int.mul_assoc n c b]
    rw [Int.mul_assoc n a d] at q2
    omega
  exact Int.le_of_mul_le_mul_right q4 (by omega)
theorem termV_pos (a : Int) : 1 ≤ termV a := (termV_bd a).1
/-- what the law needs of two ratios -/
theorem cmp_facts {a b c d : Int} (h1 : ratV a b = true) (h2 : ratV c d = true) :
    (cmpR c d a b = -(cmpR a b c d)) ∧ (cmpR a b c d = 0 ↔ (a = c ∧ b = d)) ∧ (cmpR a b c d ≤ 0 → a * d ≤ c * b) ∧ -1 ≤ cmpR a b c d ∧ cmpR a b c d ≤ 1 := by
  obtain ⟨⟨a1, a2⟩, ⟨b1, b2⟩, g1⟩ := ratV_true.1 h1
  obtain ⟨⟨c1, c2⟩, ⟨d1, d2⟩, g2⟩ := ratV_true.1 h2
  have e1 : cmpR a b c d = if a * d = c * b then 0 else if a * d < c * b then -1 else 1 := by unfold cmpR; rw [h1, h2]; simp
  have e2 : cmpR c d a b = if c * b = a * d then 0 else if c * b < a * d then -1 else 1 := by unfold cmpR; rw [h1, h2]; simp
  have ce : a * d = c * b ↔ (a = c ∧ b = d) := ⟨fun h => cross_eq a1 b1 c1 d1 g1 g2 h, fun ⟨h3, h4⟩ => by rw [h3, h4]⟩
  rw [e1, e2]
  generalize a * d = P at *
  generalize c * b = Q at *
  refine ⟨?_, ?_, ?_, ?_, ?_⟩
  · split <;> split <;> (try split) <;> (try split) <;> omega
  · rw [← ce]; split <;> (try split) <;> omega
  · split <;> (try split) <;> omega
  · split <;> (try split) <;> omega
  · split <;> (try split) <;> omega
set_option maxRecDepth 100000 in
set_option maxHeartbeats 8000000 in
theorem ratioOrder_walk (a b c d n : Int) (w : World) (hn0 : 0 ≤ n) (hn1 : n ≤ 65535) :
    Calls Try.prog 7 #[.int .i64 a, .int .i64 b, .int .i64 c, .int .i64 d, .int .u16 n] w fun e w' => e = .returned (.bool true) ∧ Below w.heap.size w w' := by
  have h1 := made_ok a b
  have h2 := made_ok c d
  have c1 := hid (fun w => made03_any a b w)
  have c2 := hid (fun w => made03_any c d w)
  generalize (mkV (termV a) (termV b)).1.1 = X at *
  generalize (mkV (termV a) (termV b)).1.2 = Y at *
  generalize (mkV (termV c) (termV d)).1.1 = U at *
  generalize (mkV (termV c) (termV d)).1.2 = V at *
  obtain ⟨⟨x1, x2⟩, ⟨y1, y2⟩, g1⟩ := ratV_true.1 h1
  obtain ⟨⟨u1, u2⟩, ⟨v1, v2⟩, g2⟩ := ratV_true.1 h2
  have hi : ratV Y X = true := ratV_true.2 ⟨⟨y1, y2⟩, ⟨x1, x2⟩, by rw [Int.gcd_comm]; exact g1⟩
  have p0 : 0 ≤ n * X := Int.mul_nonneg hn0 (by omega)
  have p1 : n * X ≤ 65535 * 68719476736 := Int.mul_le_mul (by omega) (by omega) (by omega) (by omega)
  have p2 : 0 ≤ n * U := Int.mul_nonneg hn0 (by omega)
  have p3 : n * U ≤ 65535 * 68719476736 := Int.mul_le_mul (by omega) (by omega) (by omega) (by omega)
  have c3 := hid (fun w => inv_any X Y h1 w)
  have c4 := hid (fun w => mul_any X Y Y X h1 hi w)
  rw [mulV_inv X Y x1 y1] at c4
  have c5 := hid (fun w => mul_any X Y U V h1 h2 w)
  have c6 := hid (fun w => mul_any U V X Y h2 h1 w)
  rw [mulV_comm U V X Y] at c6
  have c7 := hid (fun w => floor_any n X Y (by omega) (by omega) h1 (by omega) (by omega) w)
  have c8 := hid (fun w => floor_any n U V (by omega) (by omega) h2 (by omega) (by omega) w)
  have c9 := hid (fun w => cmp_any X Y U V w)
  have c10 := hid (fun w => cmp_any U V X Y w)
  obtain ⟨f1, f2, f3, f4, f5⟩ := cmp_facts h1 h2
  have HQ := hid (show cmpR X Y U V ≤ 0 → n * X / Y ≤ n * U / V from fun h => cross_le y1 v1 hn0 (f3 h))
  rw [f1] at c10
  generalize cmpR X Y U V = K at *
  generalize (mulV X Y U V).1.1 = M1 at *
  generalize (mulV X Y U V).1.2 = M2 at *
  generalize (mulV X Y U V).2 = M3 at *
  generalize n * X / Y = FX at *
  generalize n * U / V = FU at *
  have HN := hid (show 0 ≤ n ∧ n ≤ 65535 from ⟨hn0, hn1⟩)
  have HK := hid (show -1 ≤ K ∧ K ≤ 1 from ⟨f4, f5⟩)
  have HE := hid f2
  clear h1 h2 hi x1 x2 y1 y2 u1 u2 v1 v2 g1 g2 p0 p1 p2 p3 f1 f2 f3 f4 f5 hn0 hn1
  go_enter Try.func7, Try.ntmps7
  go_wp2_with fail
  (with_reducible refine (sane03_any _).mono ?_); rintro e w1 ⟨rfl, hb⟩; have HL := hid (Lv.kept (Lv.start w) hb); clear hb
  go_wp2_with fail
  (with_reducible refine (c1.out _).mono ?_); rintro e w2 ⟨rfl, hb⟩; have HL2 := hid (HL.out.kept hb); clear hb HL
  go_wp2_with fail
  (with_reducible refine (c2.out _).mono ?_); rintro e w3 ⟨rfl, hb⟩; have HL3 := hid (HL2.out.kept hb); clear hb HL2
  go_wp2_with fail
  clear c1 c2
  (with_reducible refine (c3.out _).mono ?_); rintro e w4 ⟨rfl, hb⟩; have HL4 := hid (Lv.alloc (vs := [.int .i64 Y, .int .i64 X]) (T := 23) (Lv.kept (Lv.alloc (vs := [.int .i64 U, .int .i64 V]) (T := 23) (Lv.alloc (vs := [.int .i64 X, .int .i64 Y]) (T := 23) (HL3.out))) hb)); clear hb HL3 c3
  have hL := HL4.out.facts
  simp only [liveAt, cellsAt, and_true, Nat.zero_add, Nat.reduceAdd, World.size_alloc] at hL
  go_wp2_with fail
  clear hL
  (with_reducible refine (c4.out _).mono ?_); rintro e w5 ⟨rfl, hb⟩; have HL5 := hid (Lv.alloc (vs := [.int .i64 1, .int .i64 1]) (T := 23) (HL4.out.kept hb)); clear hb HL4 c4
  have hL := HL5.out.facts
  simp only [liveAt, cellsAt, and_true, Nat.zero_add, Nat.reduceAdd, World.size_alloc] at hL
  go_wp2_with fail
  clear hL
  (with_reducible refine (c5.out _).mono ?_); rintro e w6 ⟨rfl, hb⟩; have HL6 := hid (Lv.alloc (vs := [.int .i64 M1, .int .i64 M2]) (T := 23) (HL5.out.kept hb)); clear hb HL5 c5
  have hL := HL6.out.facts
  simp only [liveAt, cellsAt, and_true, Nat.zero_add, Nat.reduceAdd, World.size_alloc] at hL
  go_wp2_with fail
  clear hL
  (with_reducible refine (c6.out _).mono ?_); rintro e w7 ⟨rfl, hb⟩; have HL7 := hid (Lv.alloc (vs := [.int .i64 M1, .int .i64 M2]) (T := 23) (HL6.out.kept hb)); clear hb HL6 c6
  have hL := HL7.out.facts
  simp only [liveAt, cellsAt, and_true, Nat.zero_add, Nat.reduceAdd, World.size_alloc] at hL
  have hn : IntKind.i64.wrap n = n := IntWalk.i64_in _ (by have := HN.out; omega)
  go_wp2_with fail
  clear hL
  (with_reducible refine (c7.out _).mono ?_); rintro e w8 ⟨rfl, hb⟩; have HL8 := hid (HL7.out.kept hb); clear hb HL7 c7
  have hL := HL8.out.facts
  simp only [liveAt, cellsAt, and_true, Nat.zero_add, Nat.reduceAdd, World.size_alloc] at hL
  go_wp2_with fail
  clear hL
  (with_reducible refine (c8.out _).mono ?_); rintro e w9 ⟨rfl, hb⟩; have HL9 := hid (HL8.out.kept hb); clear hb HL8 c8
  have hL := HL9.out.facts
  simp only [liveAt, cellsAt, and_true, Nat.zero_add, Nat.reduceAdd, World.size_alloc] at hL
  go_wp2_with fail
  clear hL
  (with_reducible refine (c9.out _).mono ?_); rintro e w10 ⟨rfl, hb⟩; have HL10 := hid (HL9.out.kept hb); clear hb HL9 c9
  have hL := HL10.out.facts
  simp only [liveAt, cellsAt, and_true, Nat.zero_add, Nat.reduceAdd, World.size_alloc] at hL
  go_wp2_with fail
  clear hL hn
  (with_reducible refine (c10.out _).mono ?_); rintro e w11 ⟨rfl, hb⟩; have HL11 := hid (HL10.out.kept hb); clear hb HL10 c10
  have hL := HL11.out.facts
  simp only [liveAt, cellsAt, and_true, Nat.zero_add, Nat.reduceAdd, World.size_alloc] at hL
  have hk3 : K = -1 ∨ K = 0 ∨ K = 1 := by have := HK.out; omega
  rcases hk3 with rfl | rfl | rfl
  · have hq := HQ.out (by omega)
    have hne : ¬ (X = U ∧ Y = V) := by intro q; have := HE.out.2 q; omega
    clear HQ HE HK
    go_wp2
    all_goals go_ret
    all_goals first
      | exact ⟨rfl, HL11.out.below⟩
      | (exfalso; (try simp_all); omega)
      | trace_state
  · have hq := HQ.out (by omega)
    obtain ⟨rfl, rfl⟩ := HE.out.1 rfl
    clear HQ HE HK
    go_wp2
    all_goals go_ret
    all_goals first
      | exact ⟨rfl, HL11.out.below⟩
      | (exfalso; (try simp_all); omega)
      | trace_state
  · have hne : ¬ (X = U ∧ Y = V) := by intro q; have := HE.out.2 q; omega
    clear HQ HE HK
    go_wp2
    all_goals go_ret
    all_goals first
      | exact ⟨rfl, HL11.out.below⟩
      | (exfalso; (try simp_all); omega)
      | trace_state
end Go.Proofs.Ytkdlpbpaoemcaaa
