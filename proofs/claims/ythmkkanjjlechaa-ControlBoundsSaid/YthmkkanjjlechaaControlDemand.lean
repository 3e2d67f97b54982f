/- What Demand gives, on both sides. -/
import Derived.Test.YthmkkanjjlechaaControlPlan
import Derived.Outline
namespace Go.Proofs.Ythmkkanjjlechaa
open Go.ChangeShapes Go.WideShapes Go.ChangeAt Go.RowKit
set_option linter.unusedVariables false
set_option linter.unusedSimpArgs false
set_option maxHeartbeats 8000000 in
theorem demand_any (t c g m n d k j : Int) (w : World) :
    Calls Try.prog 22 #[.agg #[.int .i64 t, .int .i64 c, .int .i64 g, .int .i64 m], .agg #[.int .i64 n, .int .i64 d], .int .i64 k, .int .i64 j] w fun e w' => e = .returned (.tuple #[.int .i64 (demV t c g m n d k j).1, .int .i64 (demV t c g m n d k j).2]) ∧ Below w.heap.size w w' := by
  have H0 := hid (Lv.alloc (vs := [.int .i64 n, .int .i64 d]) (T := 27) (Lv.alloc (vs := [.int .i64 t, .int .i64 c, .int .i64 g, .int .i64 m]) (T := 23) (Lv.start w)))
  have c1 := hid (fun w => check_any t c g m n d k j 0 w)
  have hst := H0.out.facts
  simp only [liveAt, cellsAt, and_true, Nat.zero_add, Nat.reduceAdd, World.size_alloc] at hst
  by_cases h : chkV t c g m n d k j 0 = 0
  · obtain ⟨hc, hp, ⟨k1, k2⟩, ⟨j1, j2⟩, s1, s2⟩ := chk_bd h
    obtain ⟨_, ⟨d1, d2⟩, ⟨g1, g2⟩, m1, m2⟩ := ctlV_true.1 hc
    obtain ⟨n1, n2, e1, e2⟩ := posV_bd hp
    have hw := ceilR_bd hp
    have ht := twi_bd hp (show 0 ≤ k + m by omega) (by omega)
    have c2 := hid (fun w => ceil_any n d (by omega) (by omega) e1 (by omega) w)
    have c3 := hid (fun w => twice_any n d (k + m) hp (by omega) (by omega) w)
    have e : demV t c g m n d k j = (ceilV n d + twiV n d (k + m) + 2 * j + 3, 0) := by unfold demV; rw [if_pos h]
    rw [e]
    rw [h] at c1
    obtain ⟨hw1, hw2⟩ := hw
    obtain ⟨ht1, ht2⟩ := ht
    clear e h hc hp hst n1 n2 e1 e2
    generalize ceilV n d = X at *
    generalize twiV n d (k + m) = Y at *
    have q1 : IntKind.i64.wrap (k + m) = k + m := IntWalk.i64_in _ (by omega)
    have q2 : IntKind.i64.wrap X = X := IntWalk.i64_in _ (by omega)
    have q3 : wrap64 X = X := by simp only [wrap64]; omega
    have q4 : IntKind.i64.wrap (X + Y) = X + Y := IntWalk.i64_in _ (by omega)
    have q5 : IntKind.i64.wrap (2 * j) = 2 * j := IntWalk.i64_in _ (by omega)
    have q6 : IntKind.i64.wrap (X + Y + 2 * j) = X + Y + 2 * j := IntWalk.i64_in _ (by omega)
    have q7 : IntKind.i64.wrap (X + Y + 2 * j + 3) = X + Y + 2 * j + 3 := IntWalk.i64_in _ (by omega)
    go_enter Try.func22, Try.ntmps22
    go_wp2_with (go_at_call 40; (with_reducible refine (c1.out _).mono ?_); rintro e w1 ⟨rfl, hb⟩; have HL1 := hid (H0.out.kept hb); clear hb; have hL := HL1.out.facts; simp only [liveAt, cellsAt, and_true, Nat.zero_add, Nat.reduceAdd, World.size_alloc] at hL)
    have hl1 := HL1.out
    simp only [World.size_alloc] at hl1
    generalize hB : w.heap.size = B at *
    have hS := start6 hl1
    clear hl1 hL HL1 H0
    go_region_held3 (fun w' => w'.cell? ⟨B, 0, none⟩ = some (.int .i64 t) ∧ w'.cell? ⟨B, 1, none⟩ = some (.int .i64 c) ∧ w'.cell? ⟨B, 2, none⟩ = some (.int .i64 g) ∧ w'.cell? ⟨B, 3, none⟩ = some (.int .i64 m) ∧ w'.cell? ⟨B + 1, 0, none⟩ = some (.int .i64 n) ∧ w'.cell? ⟨B + 1, 1, none⟩ = some (.int .i64 d) ∧ Lv w w' [(B + 1, [.int .i64 n, .int .i64 d], 27), (B, [.int .i64 t, .int .i64 c, .int .i64 g, .int .i64 m], 23)]) (assumption) (first
      | (go_at_call 41; (with_reducible refine (keep6 (below_same (c2.out _)) (by assumption)).mono ?_); rintro e w' ⟨rfl, hS⟩)
      | (go_at_call 42; (with_reducible refine (keep6 (c3.out _) (by assumption)).mono ?_); rintro e w' ⟨rfl, hS⟩))
    obtain ⟨_, _, _, _, _, _, hl2⟩ := hS
    have HL2 := hid hl2
    clear hl2
    go_wp2
    all_goals go_ret2
    all_goals exact ⟨ret_two (by omega) rfl, HL2.out.below⟩
  · have e : demV t c g m n d k j = (0, chkV t c g m n d k j 0) := by unfold demV; rw [if_neg h]
    rw [e]
    skip
    have hb1 : (chkV t c g m n d k j 0 == 0) = false := by simpa using h
    have hb2 : (chkV t c g m n d k j 0 != 0) = true := by simpa using h
    generalize chkV t c g m n d k j 0 = Z at *
    clear h e hst
    go_enter Try.func22, Try.ntmps22
    go_wp2_with (go_at_call 40; (with_reducible refine (c1.out _).mono ?_); rintro e w1 ⟨rfl, hb⟩; have HL1 := hid (H0.out.kept hb); clear hb; have hL := HL1.out.facts; simp only [liveAt, cellsAt, and_true, Nat.zero_add, Nat.reduceAdd, World.size_alloc] at hL)
    go_ret2
    exact ⟨rfl, HL1.out.below⟩
set_option maxHeartbeats 8000000 in
theorem rdemand_any (t c g m n d k j : Int) (w : World) :
    Calls Try.prog 23 #[.agg #[.int .i64 t, .int .i64 c, .int .i64 g, .int .i64 m], .agg #[.int .i64 n, .int .i64 d], .int .i64 k, .int .i64 j] w fun e w' => e = .returned (.tuple #[.int .i64 (demV t c g m n d k j).1, .int .i64 (demV t c g m n d k j).2]) ∧ Below w.heap.size w w' := by
  have H0 := hid (Lv.alloc (vs := [.int .i64 n, .int .i64 d]) (T := 27) (Lv.alloc (vs := [.int .i64 t, .int .i64 c, .int .i64 g, .int .i64 m]) (T := 23) (Lv.start w)))
  have c1 := hid (fun w => rbound_any t c g m n d k j 0 w)
  have hst := H0.out.facts
  simp only [liveAt, cellsAt, and_true, Nat.zero_add, Nat.reduceAdd, World.size_alloc] at hst
  by_cases h : chkV t c g m n d k j 0 = 0
  · obtain ⟨hc, hp, ⟨k1, k2⟩, ⟨j1, j2⟩, s1, s2⟩ := chk_bd h
    obtain ⟨_, ⟨d1, d2⟩, ⟨g1, g2⟩, m1, m2⟩ := ctlV_true.1 hc
    obtain ⟨n1, n2, e1, e2⟩ := posV_bd hp
    have hw := ceilR_bd hp
    have ht := twi_bd hp (show 0 ≤ k + m by omega) (by omega)
    have c2 := hid (fun w => up_any n d (by omega) (by omega) e1 (by omega) w)
    have c3 := hid (fun w => sway_any n d (k + m) hp (by omega) (by omega) w)
    have e : demV t c g m n d k j = (ceilV n d + twiV n d (k + m) + 2 * j + 3, 0) := by unfold demV; rw [if_pos h]
    rw [e]
    have eb : (bndV t c g m n d k j 0).2 = 0 := by unfold bndV; rw [if_pos h]
    rw [eb] at c1
    generalize (bndV t c g m n d k j 0).1 = BV at *
    obtain ⟨hw1, hw2⟩ := hw
    obtain ⟨ht1, ht2⟩ := ht
    clear e h hc hp hst n1 n2 e1 e2
    generalize ceilV n d = X at *
    generalize twiV n d (k + m) = Y at *
    have q1 : IntKind.i64.wrap (k + m) = k + m := IntWalk.i64_in _ (by omega)
    have q2 : IntKind.i64.wrap X = X := IntWalk.i64_in _ (by omega)
    have q3 : wrap64 X = X := by simp only [wrap64]; omega
    have q4 : IntKind.i64.wrap (X + Y) = X + Y := IntWalk.i64_in _ (by omega)
    have q5 : IntKind.i64.wrap (2 * j) = 2 * j := IntWalk.i64_in _ (by omega)
    have q6 : IntKind.i64.wrap (X + Y + 2 * j) = X + Y + 2 * j := IntWalk.i64_in _ (by omega)
    have q7 : IntKind.i64.wrap (X + Y + 2 * j + 3) = X + Y + 2 * j + 3 := IntWalk.i64_in _ (by omega)
    go_enter Try.func23, Try.ntmps23
    go_wp2_with (go_at_call 21; (with_reducible refine (c1.out _).mono ?_); rintro e w1 ⟨rfl, hb⟩; have HL1 := hid (H0.out.kept hb); clear hb; have hL := HL1.out.facts; simp only [liveAt, cellsAt, and_true, Nat.zero_add, Nat.reduceAdd, World.size_alloc] at hL)
    have hl1 := HL1.out
    simp only [World.size_alloc] at hl1
    generalize hB : w.heap.size = B at *
    have hS := start6 hl1
    clear hl1 hL HL1 H0
    go_region_held3 (fun w' => w'.cell? ⟨B, 0, none⟩ = some (.int .i64 t) ∧ w'.cell? ⟨B, 1, none⟩ = some (.int .i64 c) ∧ w'.cell? ⟨B, 2, none⟩ = some (.int .i64 g) ∧ w'.cell? ⟨B, 3, none⟩ = some (.int .i64 m) ∧ w'.cell? ⟨B + 1, 0, none⟩ = some (.int .i64 n) ∧ w'.cell? ⟨B + 1, 1, none⟩ = some (.int .i64 d) ∧ Lv w w' [(B + 1, [.int .i64 n, .int .i64 d], 27), (B, [.int .i64 t, .int .i64 c, .int .i64 g, .int .i64 m], 23)]) (assumption) (first
      | (go_at_call 44; (with_reducible refine (keep6 (below_same (c2.out _)) (by assumption)).mono ?_); rintro e w' ⟨rfl, hS⟩)
      | (go_at_call 45; (with_reducible refine (keep6 (c3.out _) (by assumption)).mono ?_); rintro e w' ⟨rfl, hS⟩))
    obtain ⟨_, _, _, _, _, _, hl2⟩ := hS
    have HL2 := hid hl2
    clear hl2
    go_wp2
    all_goals go_ret2
    all_goals exact ⟨ret_two (by omega) rfl, HL2.out.below⟩
  · have e : demV t c g m n d k j = (0, chkV t c g m n d k j 0) := by unfold demV; rw [if_neg h]
    rw [e]
    have eb : bndV t c g m n d k j 0 = (0, chkV t c g m n d k j 0) := by unfold bndV; rw [if_neg h]
    rw [eb] at c1
    have hb1 : (chkV t c g m n d k j 0 == 0) = false := by simpa using h
    have hb2 : (chkV t c g m n d k j 0 != 0) = true := by simpa using h
    generalize chkV t c g m n d k j 0 = Z at *
    clear h e hst
    go_enter Try.func23, Try.ntmps23
    go_wp2_with (go_at_call 21; (with_reducible refine (c1.out _).mono ?_); rintro e w1 ⟨rfl, hb⟩; have HL1 := hid (H0.out.kept hb); clear hb; have hL := HL1.out.facts; simp only [liveAt, cellsAt, and_true, Nat.zero_add, Nat.reduceAdd, World.size_alloc] at hL)
    go_ret2
    exact ⟨rfl, HL1.out.below⟩
end Go.Proofs.Ythmkkanjjlechaa
