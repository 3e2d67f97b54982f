/- The product as the reference forms it. -/
import Derived.Test.YtkdlpbpaoemcaaaRatioGen
import Derived.Outline
namespace Go.Proofs.Ytkdlpbpaoemcaaa
open Go.ChangeShapes Go.WideShapes Go.ChangeAt Go.RowKit
set_option linter.unusedVariables false
set_option linter.unusedSimpArgs false

theorem quo_lt {x y : Int} (hx : 0 ≤ x) (hy : 1 ≤ y) : 68719476736 / y < x ↔ 68719476736 < x * y := by
  rw [Int.ediv_lt_iff_lt_mul (by omega)]
set_option maxRecDepth 100000 in
set_option maxHeartbeats 8000000 in
theorem rmul_any (an ad bn bd : Int) (h1 : ratV an ad = true) (h2 : ratV bn bd = true) (w : World) :
    Calls Try.prog 17 #[.agg #[.int .i64 an, .int .i64 ad], .agg #[.int .i64 bn, .int .i64 bd]] w fun e w' => e = .returned (.tuple #[.agg #[.int .i64 (mulV an ad bn bd).1.1, .int .i64 (mulV an ad bn bd).1.2], .int .i64 (mulV an ad bn bd).2]) ∧ Below w.heap.size w w' := by
  obtain ⟨⟨n1, n2⟩, ⟨d1, d2⟩, _⟩ := ratV_true.1 h1
  obtain ⟨⟨n3, n4⟩, ⟨d3, d4⟩, _⟩ := ratV_true.1 h2
  have c1 := hid (fun w => rratv_any an ad w)
  rw [h1] at c1
  have c2 := hid (fun w => rratv_any bn bd w)
  rw [h2] at c2
  have c3 := hid (fun w => rgcd_any an bd (by omega) (by omega) (by omega) (by omega) w)
  have c4 := hid (fun w => rgcd_any bn ad (by omega) (by omega) (by omega) (by omega) w)
  obtain ⟨g1, x1, x2, x3⟩ := quot2 (a := an) (b := bd) n1 rfl
  obtain ⟨g2, x4, x5, x6⟩ := quot2 (a := bn) (b := ad) n3 rfl
  obtain ⟨_, x7, x8, x9⟩ := quot2 (a := ad) (b := bn) d1 rfl
  obtain ⟨_, y1, y2, y3⟩ := quot2 (a := bd) (b := an) d3 rfl
  rw [Int.gcd_comm ad bn] at x7 x8 x9
  rw [Int.gcd_comm bd an] at y1 y2 y3
  have o1 := (quot_pos (a := bn) (b := ad) n3 d1).1
  have o2 := (quot_pos (a := an) (b := bd) n1 d3).2.1
  generalize hM : mulV an ad bn bd = M
  unfold mulV termP at hM
  generalize ((Int.gcd an bd : Nat) : Int) = G at *
  generalize ((Int.gcd bn ad : Nat) : Int) = H at *
  generalize an / G = X1 at *
  generalize bn / H = X2 at *
  generalize ad / H = X3 at *
  generalize bd / G = X4 at *
  have k1 := quo_lt (x := X1) (y := X2) x1 o1
  have k2 := quo_lt (x := X3) (y := X4) x7 o2
  have k3 : (68719476736 : Int).tdiv X2 = 68719476736 / X2 := Int.tdiv_eq_ediv_of_nonneg (by omega)
  have k4 : (68719476736 : Int).tdiv X4 = 68719476736 / X4 := Int.tdiv_eq_ediv_of_nonneg (by omega)
  have k5 : 0 ≤ 68719476736 / X2 := Int.ediv_nonneg (by omega) (by omega)
  have k6 : 68719476736 / X2 ≤ 68719476736 := Int.ediv_le_self _ (by omega)
  have k7 : 0 ≤ 68719476736 / X4 := Int.ediv_nonneg (by omega) (by omega)
  have k8 : 68719476736 / X4 ≤ 68719476736 := Int.ediv_le_self _ (by omega)
  have w1' : 0 ≤ X1 * X2 := Int.mul_nonneg x1 (by omega)
  have w2' : 0 ≤ X3 * X4 := Int.mul_nonneg x7 (by omega)
  generalize 68719476736 / X2 = L2 at *
  generalize 68719476736 / X4 = L4 at *
  have z1 : (G == 0) = false := by simp; omega
  have z2 : ¬ G = 0 := by omega
  have z3 : (H == 0) = false := by simp; omega
  have z4 : ¬ H = 0 := by omega
  have z5 : ¬ X2 = 0 := by omega
  have z6 : ¬ X4 = 0 := by omega
  have z7 : (X2 == 0) = false := by simp; omega
  have z8 : (X4 == 0) = false := by simp; omega
  have u1 : IntKind.i64.wrap X1 = X1 := IntWalk.i64_in _ (by omega)
  have u2 : IntKind.i64.wrap X2 = X2 := IntWalk.i64_in _ (by omega)
  have u3 : IntKind.i64.wrap X3 = X3 := IntWalk.i64_in _ (by omega)
  have u4 : IntKind.i64.wrap X4 = X4 := IntWalk.i64_in _ (by omega)
  have u5 : IntKind.i64.wrap L2 = L2 := IntWalk.i64_in _ (by omega)
  have u6 : IntKind.i64.wrap L4 = L4 := IntWalk.i64_in _ (by omega)
  have v1 : wrap64 X1 = X1 := by simp only [wrap64]; omega
  have v2 : wrap64 X2 = X2 := by simp only [wrap64]; omega
  have v3 : wrap64 X3 = X3 := by simp only [wrap64]; omega
  have v4 : wrap64 X4 = X4 := by simp only [wrap64]; omega
  have HK1 := hid k1
  have HM := hid hM
  clear hM
  have HK2 := hid k2
  have HW := hid (show 0 ≤ X1 * X2 ∧ 0 ≤ X3 * X4 from ⟨w1', w2'⟩)
  clear h1 h2 n1 n2 n3 n4 d1 d2 d3 d4 g1 g2 x1 x2 x4 x5 x7 x8 y1 y2 k1 k2 k5 k6 k7 k8 o1 o2 w1' w2'
  go_enter Try.func17, Try.ntmps17
  go_wp2_with fail
  (with_reducible refine (c1.out _).mono ?_); rintro e w1 ⟨rfl, hb⟩; have HL := hid (Lv.kept (Lv.alloc (vs := [.int .i64 0, .int .i64 0]) (T := 23) (Lv.alloc (vs := [.int .i64 bn, .int .i64 bd]) (T := 23) (Lv.alloc (vs := [.int .i64 an, .int .i64 ad]) (T := 23) (Lv.start w)))) hb); clear hb
  have hL := HL.out.facts
  simp only [liveAt, cellsAt, and_true, Nat.zero_add, Nat.reduceAdd, World.size_alloc] at hL
  go_wp2_with fail
  (with_reducible refine (c2.out _).mono ?_); rintro e w2 ⟨rfl, hb⟩; have HL2 := hid (HL.out.kept hb); clear hb hL HL
  have hL := HL2.out.facts
  simp only [liveAt, cellsAt, and_true, Nat.zero_add, Nat.reduceAdd, World.size_alloc] at hL
  have hl := HL2.out
  simp only [World.size_alloc] at hl
  clear HL2
  generalize hB : w.heap.size = B at hl hL
  go_wp2_with fail
  have hS := s4_of hl.drew
  clear hl hL
  go_region_held3 (fun w' => w'.cell? ⟨B, 0, none⟩ = some (.int .i64 an) ∧ w'.cell? ⟨B, 1, none⟩ = some (.int .i64 ad) ∧ w'.cell? ⟨B + 1, 0, none⟩ = some (.int .i64 bn) ∧ w'.cell? ⟨B + 1, 1, none⟩ = some (.int .i64 bd) ∧ Lv w w' [(B + 1 + 1, [.int .i64 0, .int .i64 0], 23), (B + 1, [.int .i64 bn, .int .i64 bd], 23), (B, [.int .i64 an, .int .i64 ad], 23)]) (assumption) (first
    | (go_at_call 30; (with_reducible refine (keep4 (c3.out _) (by assumption)).mono ?_); rintro e w' ⟨rfl, hS⟩)
    | (go_at_call 30; (with_reducible refine (keep4 (c4.out _) (by assumption)).mono ?_); rintro e w' ⟨rfl, hS⟩))
  obtain ⟨s0, s1, s2, s3, hl⟩ := hS
  have HL3 := hid hl
  clear hl c3 c4 s0 s1 s2 s3
  have hL := HL3.out.facts
  simp only [liveAt, cellsAt, and_true, Nat.zero_add, Nat.reduceAdd, World.size_alloc] at hL
  go_wp2_with fail
  have hS := s4_of HL3.out.drew
  clear hL HL3
  go_region_held3 (fun w' => w'.cell? ⟨B, 0, none⟩ = some (.int .i64 an) ∧ w'.cell? ⟨B, 1, none⟩ = some (.int .i64 ad) ∧ w'.cell? ⟨B + 1, 0, none⟩ = some (.int .i64 bn) ∧ w'.cell? ⟨B + 1, 1, none⟩ = some (.int .i64 bd) ∧ Lv w w' [(B + 1 + 1, [.int .i64 0, .int .i64 0], 23), (B + 1, [.int .i64 bn, .int .i64 bd], 23), (B, [.int .i64 an, .int .i64 ad], 23)]) (assumption) (fail)
  obtain ⟨s0, s1, s2, s3, hl⟩ := hS
  generalize w'.drew = wz at hl ⊢
  have HL3 := hid hl
  clear hl s0 s1 s2 s3
  have hL := HL3.out.facts
  simp only [liveAt, cellsAt, and_true, Nat.zero_add, Nat.reduceAdd, World.size_alloc] at hL
  go_wp2_with fail
  have hS := s4_of HL3.out.drew
  clear hL HL3
  go_region_held3 (fun w' => w'.cell? ⟨B, 0, none⟩ = some (.int .i64 an) ∧ w'.cell? ⟨B, 1, none⟩ = some (.int .i64 ad) ∧ w'.cell? ⟨B + 1, 0, none⟩ = some (.int .i64 bn) ∧ w'.cell? ⟨B + 1, 1, none⟩ = some (.int .i64 bd) ∧ Lv w w' [(B + 1 + 1, [.int .i64 0, .int .i64 0], 23), (B + 1, [.int .i64 bn, .int .i64 bd], 23), (B, [.int .i64 an, .int .i64 ad], 23)]) (assumption) (fail)
  obtain ⟨s0, s1, s2, s3, hl⟩ := hS
  generalize wz.drew = wy at hl ⊢
  have HL3 := hid hl
  clear hl s0 s1 s2 s3
  have hL := HL3.out.facts
  simp only [liveAt, cellsAt, and_true, Nat.zero_add, Nat.reduceAdd, World.size_alloc] at hL
  have hbl := HL3.out.below
  rw [hB] at hbl
  have hz := HL3.out.drop.drop.lt
  have hz2 := HL3.out.lt
  by_cases hp : X1 * X2 ≤ 68719476736
  · by_cases hq : X3 * X4 ≤ 68719476736
    · have r1 : ¬ L2 < X1 := by have := HK1.out; omega
      have r2 : ¬ L4 < X3 := by have := HK2.out; omega
      have r3 : IntKind.i64.wrap (X1 * X2) = X1 * X2 := IntWalk.i64_in _ (by have := HW.out; omega)
      have r4 : IntKind.i64.wrap (X3 * X4) = X3 * X4 := IntWalk.i64_in _ (by have := HW.out; omega)
      have hM := HM.out
      simp only [hp, hq, if_true, if_false, and_self, true_and, and_true] at hM
      subst hM
      clear HM
      go_wp2_with fail
      all_goals first
        | (refine bodyPost_ret (by simp [results, Try.results17, go_sem, *]; try rfl) rfl ?_; exact ⟨rfl, by go_grown⟩)
        | trace_state
    · have r1 : ¬ L2 < X1 := by have := HK1.out; omega
      have r2 : L4 < X3 := by have := HK2.out; omega
      have hM := HM.out
      simp [hp, hq] at hM
      subst hM
      clear HM
      go_wp2_with fail
      all_goals first
        | (refine bodyPost_ret (by simp [results, Try.results17, go_sem, *]; try rfl) rfl ?_; exact ⟨rfl, by go_grown⟩)
        | trace_state
  · have r1 : L2 < X1 := by have := HK1.out; omega
    have hM := HM.out
    simp [hp] at hM
    subst hM
    clear HM
    go_wp2_with fail
    all_goals first
      | (refine bodyPost_ret (by simp [results, Try.results17, go_sem, *]; try rfl) rfl ?_; exact ⟨rfl, by go_grown⟩)
      | trace_state
theorem mulG_dec (an ad bn bd : Int) : (ratV an ad = true ∧ ratV bn bd = true) ∨ ¬ (ratV an ad = true ∧ ratV bn bd = true) := Classical.em _
def mulG (an ad bn bd : Int) : (Int × Int) × Int := if ratV an ad = true ∧ ratV bn bd = true then mulV an ad bn bd else ((0, 0), 1)
theorem mul_gen (an ad bn bd : Int) (w : World) :
    Calls Try.prog 16 #[.agg #[.int .i64 an, .int .i64 ad], .agg #[.int .i64 bn, .int .i64 bd]] w fun e w' => e = .returned (.tuple #[.agg #[.int .i64 (mulG an ad bn bd).1.1, .int .i64 (mulG an ad bn bd).1.2], .int .i64 (mulG an ad bn bd).2]) ∧ Below w.heap.size w w' := by
  unfold mulG
  by_cases h : ratV an ad = true ∧ ratV bn bd = true
  · rw [if_pos h]; exact mul_any an ad bn bd h.1 h.2 w
  · rw [if_neg h]; exact mul_bad an ad bn bd h w
theorem rmul_gen (an ad bn bd : Int) (w : World) :
    Calls Try.prog 17 #[.agg #[.int .i64 an, .int .i64 ad], .agg #[.int .i64 bn, .int .i64 bd]] w fun e w' => e = .returned (.tuple #[.agg #[.int .i64 (mulG an ad bn bd).1.1, .int .i64 (mulG an ad bn bd).1.2], .int .i64 (mulG an ad bn bd).2]) ∧ Below w.heap.size w w' := by
  unfold mulG
  by_cases h : ratV an ad = true ∧ ratV bn bd = true
  · rw [if_pos h]; exact rmul_any an ad bn bd h.1 h.2 w
  · rw [if_neg h]; exact rmul_bad an ad bn bd h w
end Go.Proofs.Ytkdlpbpaoemcaaa
