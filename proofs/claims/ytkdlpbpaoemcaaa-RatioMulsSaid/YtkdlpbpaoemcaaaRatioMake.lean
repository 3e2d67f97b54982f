/- Ratios that are made; multiples of them that fit into 64 bits. No statement is proved here. -/
import Derived.Test.YtkdlpbpaoemcaaaRatio
import Derived.PlainAid
import Derived.Deep.RegionHeld3
namespace Go.Proofs.Ytkdlpbpaoemcaaa
open Go.ChangeShapes Go.WideShapes Go.ChangeAt Go.RowKit
set_option linter.unusedVariables false
set_option linter.unusedSimpArgs false

def mkV (a b : Int) : (Int × Int) × Int := if a < 1 ∨ b < 1 then ((0, 0), 1) else if a / Int.gcd a b ≤ 68719476736 ∧ b / Int.gcd a b ≤ 68719476736 then ((a / Int.gcd a b, b / Int.gcd a b), 0) else ((0, 0), 2)
theorem gcd_pos {a b : Int} (ha : 1 ≤ a) : 1 ≤ ((Int.gcd a b : Nat) : Int) := by
  have : Int.gcd a b ≠ 0 := by intro h; have := (Int.gcd_eq_zero_iff.1 h).1; omega
  omega
theorem quot_pos {a b : Int} (ha : 1 ≤ a) (hb : 1 ≤ b) : 1 ≤ a / Int.gcd a b ∧ 1 ≤ b / Int.gcd a b ∧ a / Int.gcd a b ≤ a ∧ b / Int.gcd a b ≤ b := by
  have hg := gcd_pos (b := b) ha
  have h1 : ((Int.gcd a b : Nat) : Int) ∣ a := Int.gcd_dvd_left ..
  have h2 : ((Int.gcd a b : Nat) : Int) ∣ b := Int.gcd_dvd_right ..
  refine ⟨?_, ?_, Int.ediv_le_self _ (by omega), Int.ediv_le_self _ (by omega)⟩
  · have := Int.ediv_pos_of_pos_of_dvd (by omega : 0 < a) (by omega) h1; omega
  · have := Int.ediv_pos_of_pos_of_dvd (by omega : 0 < b) (by omega) h2; omega
theorem quot_coprime {a b : Int} (ha : 1 ≤ a) : Int.gcd (a / Int.gcd a b) (b / Int.gcd a b) = 1 := by
  have hg := gcd_pos (b := b) ha
  exact Int.gcd_ediv_gcd_ediv_gcd (by omega)
set_option maxHeartbeats 4000000 in
theorem make_any (a b : Int) (ha : a ≤ 9223372036854775807) (hb : b ≤ 9223372036854775807) (w : World) :
    Calls Try.prog 11 #[.int .i64 a, .int .i64 b] w fun e w' => e = .returned (.tuple #[.agg #[.int .i64 (mkV a b).1.1, .int .i64 (mkV a b).1.2], .int .i64 (mkV a b).2]) ∧ Below w.heap.size w w' := by
  by_cases h : a < 1 ∨ b < 1
  · have e : mkV a b = ((0, 0), 1) := by unfold mkV; rw [if_pos h]
    rw [e]
    have H := hid h
    clear h e
    go_enter Try.func11, Try.ntmps11
    go_wp2_with (go_at_call 28; exfalso; have := H.out; omega)
    all_goals (go_returns; exact ⟨rfl, by go_grown⟩)
  · have ha1 : 1 ≤ a := by omega
    have hb1 : 1 ≤ b := by omega
    obtain ⟨q1, q2, q3, q4⟩ := quot_pos ha1 hb1
    have hg := gcd_pos (b := b) ha1
    have e : mkV a b = if a / Int.gcd a b ≤ 68719476736 ∧ b / Int.gcd a b ≤ 68719476736 then ((a / Int.gcd a b, b / Int.gcd a b), 0) else ((0, 0), 2) := by unfold mkV; rw [if_neg h]
    have c1 := hid (fun w => divisor_any a b (by omega) ha (by omega) hb w)
    rw [e]
    clear e h
    generalize ((Int.gcd a b : Nat) : Int) = G at *
    have d1 : a.tdiv G = a / G := Int.tdiv_eq_ediv_of_nonneg (by omega)
    have d2 : b.tdiv G = b / G := Int.tdiv_eq_ediv_of_nonneg (by omega)
    generalize a / G = X at *
    generalize b / G = Y at *
    have g0 : (G == 0) = false := by simp; omega
    have g1 : ¬ G = 0 := by omega
    have u1 : IntKind.i64.wrap X = X := IntWalk.i64_in _ (by omega)
    have u2 : IntKind.i64.wrap Y = Y := IntWalk.i64_in _ (by omega)
    have u3 : wrap64 X = X := by simp only [wrap64]; omega
    have u4 : wrap64 Y = Y := by simp only [wrap64]; omega
    go_enter Try.func11, Try.ntmps11
    go_wp2_with (first | (go_at_call 28; (with_reducible refine (c1.out _).mono ?_); rintro e w1 ⟨rfl, hb⟩; have HL := hid (Lv.kept (Lv.alloc (vs := [.int .i64 0, .int .i64 0]) (T := 23) (Lv.start w)) hb); clear hb) | go_in)
    have hS := HL.out.drew
    go_region_held3 (fun w' => Lv w w' [(w.heap.size, [.int .i64 0, .int .i64 0], 23)]) (first | assumption | exact HL.out.kept (by go_grown)) (fail)
    clear u1 u2 u3 u4 d1 d2 g0 g1 c1
    have hL := HL.out.facts
    simp only [liveAt, cellsAt, and_true, Nat.zero_add, Nat.reduceAdd, World.size_alloc] at hL
    have hz := HL.out.lt
    go_wp2
    all_goals try go_region_held3 (fun w' => Lv w w' [(w.heap.size, [.int .i64 0, .int .i64 0], 23)]) (first | assumption | exact HL.out.kept (by go_grown)) (fail)
    all_goals try go_wp2
    all_goals have hbl := HL.out.below
    all_goals clear hS
    all_goals first
      | (exfalso; (try simp only [Bool.not_eq_false', Bool.not_eq_true', decide_eq_true_eq, decide_eq_false_iff_not] at *); omega)
      | (refine bodyPost_ret (by simp [results, Try.results11, go_sem, *]; try rfl) rfl ?_; exact ⟨rfl, by go_grown⟩)
      | trace_state
set_option maxHeartbeats 4000000 in
theorem rmake_any (a b : Int) (ha : a ≤ 9223372036854775807) (hb : b ≤ 9223372036854775807) (w : World) :
    Calls Try.prog 12 #[.int .i64 a, .int .i64 b] w fun e w' => e = .returned (.tuple #[.agg #[.int .i64 (mkV a b).1.1, .int .i64 (mkV a b).1.2], .int .i64 (mkV a b).2]) ∧ Below w.heap.size w w' := by
  by_cases h : a < 1 ∨ b < 1
  · have e : mkV a b = ((0, 0), 1) := by unfold mkV; rw [if_pos h]
    rw [e]
    have H := hid h
    clear h e
    go_enter Try.func12, Try.ntmps12
    go_wp2_with (go_at_call 30; exfalso; have := H.out; omega)
    all_goals (go_returns; exact ⟨rfl, by go_grown⟩)
  · have ha1 : 1 ≤ a := by omega
    have hb1 : 1 ≤ b := by omega
    obtain ⟨q1, q2, q3, q4⟩ := quot_pos ha1 hb1
    have hg := gcd_pos (b := b) ha1
    have e : mkV a b = if a / Int.gcd a b ≤ 68719476736 ∧ b / Int.gcd a b ≤ 68719476736 then ((a / Int.gcd a b, b / Int.gcd a b), 0) else ((0, 0), 2) := by unfold mkV; rw [if_neg h]
    have c1 := hid (fun w => rgcd_any a b (by omega) ha (by omega) hb w)
    rw [e]
    clear e h
    generalize ((Int.gcd a b : Nat) : Int) = G at *
    have d1 : a.tdiv G = a / G := Int.tdiv_eq_ediv_of_nonneg (by omega)
    have d2 : b.tdiv G = b / G := Int.tdiv_eq_ediv_of_nonneg (by omega)
    generalize a / G = X at *
    generalize b / G = Y at *
    have g0 : (G == 0) = false := by simp; omega
    have g1 : ¬ G = 0 := by omega
    have u1 : IntKind.i64.wrap X = X := IntWalk.i64_in _ (by omega)
    have u2 : IntKind.i64.wrap Y = Y := IntWalk.i64_in _ (by omega)
    have u3 : wrap64 X = X := by simp only [wrap64]; omega
    have u4 : wrap64 Y = Y := by simp only [wrap64]; omega
    go_enter Try.func12, Try.ntmps12
    go_wp2_with (first | (go_at_call 30; (with_reducible refine (c1.out _).mono ?_); rintro e w1 ⟨rfl, hb⟩; have HL := hid (Lv.kept (Lv.alloc (vs := [.int .i64 0, .int .i64 0]) (T := 23) (Lv.start w)) hb); clear hb) | go_in)
    have hS := HL.out.drew
    go_region_held3 (fun w' => Lv w w' [(w.heap.size, [.int .i64 0, .int .i64 0], 23)]) (first | assumption | exact HL.out.kept (by go_grown)) (fail)
    clear u1 u2 u3 u4 d1 d2 g0 g1 c1
    have hL := HL.out.facts
    simp only [liveAt, cellsAt, and_true, Nat.zero_add, Nat.reduceAdd, World.size_alloc] at hL
    have hz := HL.out.lt
    go_wp2
    all_goals try go_region_held3 (fun w' => Lv w w' [(w.heap.size, [.int .i64 0, .int .i64 0], 23)]) (first | assumption | exact HL.out.kept (by go_grown)) (fail)
    all_goals try go_wp2
    all_goals have hbl := HL.out.below
    all_goals clear hS
    all_goals first
      | (exfalso; (try simp only [Bool.not_eq_false', Bool.not_eq_true', decide_eq_true_eq, decide_eq_false_iff_not] at *); omega)
      | (refine bodyPost_ret (by simp [results, Try.results12, go_sem, *]; try rfl) rfl ?_; exact ⟨rfl, by go_grown⟩)
      | trace_state
end Go.Proofs.Ytkdlpbpaoemcaaa
