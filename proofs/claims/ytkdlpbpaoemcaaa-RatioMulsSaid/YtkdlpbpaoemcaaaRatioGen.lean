/- The products, the inverses and the orders of any two ratios. -/
import Derived.Test.YtkdlpbpaoemcaaaRatioOrder
import Derived.Outline
namespace Go.Proofs.Ytkdlpbpaoemcaaa
open Go.ChangeShapes Go.WideShapes Go.ChangeAt Go.RowKit
set_option linter.unusedVariables false
set_option linter.unusedSimpArgs false
set_option maxHeartbeats 4000000 in
theorem rcmp_any (an ad bn bd : Int) (w : World) :
    Calls Try.prog 21 #[.agg #[.int .i64 an, .int .i64 ad], .agg #[.int .i64 bn, .int .i64 bd]] w fun e w' => e = .returned (.int .i64 (cmpR an ad bn bd)) ∧ Below w.heap.size w w' := by
  cases h1 : ratV an ad
  · have e : cmpR an ad bn bd = 0 := by unfold cmpR; rw [h1]; simp
    rw [e]
    clear e
    have c1 := hid (fun w => rratv_any an ad w)
    rw [h1] at c1
    go_enter Try.func21, Try.ntmps21
    go_wp2_with (go_at_call 14; (with_reducible refine (c1.out _).mono ?_); rintro e w1 ⟨rfl, hb⟩; have HB := hid hb; clear hb)
    go_ret
    exact ⟨rfl, by have h := HB.out; exact (((Below.refl _ _).alloc (Nat.le_refl _) _).alloc (by simp) _).trans (h.mono (by simp; try omega))⟩
  cases h2 : ratV bn bd
  · have e : cmpR an ad bn bd = 0 := by unfold cmpR; rw [h2]; simp
    rw [e]
    clear e
    have c1 := hid (fun w => rratv_any an ad w)
    rw [h1] at c1
    have c2 := hid (fun w => rratv_any bn bd w)
    rw [h2] at c2
    go_enter Try.func21, Try.ntmps21
    go_wp2_with fail
    (with_reducible refine (c1.out _).mono ?_); rintro e w1 ⟨rfl, hb⟩; have HL := hid (Lv.kept (Lv.alloc (vs := [.int .i64 bn, .int .i64 bd]) (T := 23) (Lv.alloc (vs := [.int .i64 an, .int .i64 ad]) (T := 23) (Lv.start w))) hb); clear hb
    have hL := HL.out.facts
    simp only [liveAt, cellsAt, and_true, Nat.zero_add, Nat.reduceAdd, World.size_alloc] at hL
    go_wp2_with fail
    (with_reducible refine (c2.out _).mono ?_); rintro e w2 ⟨rfl, hb⟩; have HL2 := hid (HL.out.kept hb); clear hb
    go_wp2
    go_ret
    exact ⟨rfl, HL2.out.below⟩
  · obtain ⟨⟨n1, n2⟩, ⟨d1, d2⟩, _⟩ := ratV_true.1 h1
    obtain ⟨⟨n3, n4⟩, ⟨d3, d4⟩, _⟩ := ratV_true.1 h2
    have e : cmpR an ad bn bd = if an * bd = bn * ad then 0 else if an * bd < bn * ad then -1 else 1 := by unfold cmpR; rw [h1, h2]; simp
    have m1 := hid (fun w => mul64_any an bd (by omega) (by omega) (by omega) (by omega) w)
    have m2 := hid (fun w => mul64_any bn ad (by omega) (by omega) (by omega) (by omega) w)
    have p1 : 0 ≤ an * bd := Int.mul_nonneg (by omega) (by omega)
    have p2 : 0 ≤ bn * ad := Int.mul_nonneg (by omega) (by omega)
    rw [e]
    clear e
    generalize an * bd = P at *
    generalize bn * ad = Q at *
    have q1 : 0 ≤ P / 18446744073709551616 := by omega
    have q2 : 0 ≤ Q / 18446744073709551616 := by omega
    have HP := hid (show (P / 18446744073709551616 = Q / 18446744073709551616 ∧ P % 18446744073709551616 = Q % 18446744073709551616 → P = Q) ∧ (P / 18446744073709551616 < Q / 18446744073709551616 → P < Q) ∧ (Q / 18446744073709551616 < P / 18446744073709551616 → Q < P) ∧ (P / 18446744073709551616 = Q / 18446744073709551616 → P % 18446744073709551616 < Q % 18446744073709551616 → P < Q) ∧ (P / 18446744073709551616 = Q / 18446744073709551616 → Q % 18446744073709551616 < P % 18446744073709551616 → Q < P) by omega)
    generalize P / 18446744073709551616 = PH at *
    generalize Q / 18446744073709551616 = QH at *
    generalize P % 18446744073709551616 = PL at *
    generalize Q % 18446744073709551616 = QL at *
    have c1 := hid (fun w => rratv_any an ad w)
    rw [h1] at c1
    have c2 := hid (fun w => rratv_any bn bd w)
    rw [h2] at c2
    clear h1 h2
    go_enter Try.func21, Try.ntmps21
    go_wp2_with fail
    (with_reducible refine (c1.out _).mono ?_); rintro e w1 ⟨rfl, hb⟩; have HL := hid (Lv.kept (Lv.alloc (vs := [.int .i64 bn, .int .i64 bd]) (T := 23) (Lv.alloc (vs := [.int .i64 an, .int .i64 ad]) (T := 23) (Lv.start w))) hb); clear hb
    have hL := HL.out.facts
    simp only [liveAt, cellsAt, and_true, Nat.zero_add, Nat.reduceAdd, World.size_alloc] at hL
    go_wp2_with fail
    (with_reducible refine (c2.out _).mono ?_); rintro e w2 ⟨rfl, hb⟩; have HL2 := hid (HL.out.kept hb); clear hb hL
    have hL := HL2.out.facts
    simp only [liveAt, cellsAt, and_true, Nat.zero_add, Nat.reduceAdd, World.size_alloc] at hL
    go_wp2_with (first | (go_at_call 34; (with_reducible refine (m1.out _).mono ?_); rintro e w3 ⟨rfl, rfl⟩) | (go_at_call 34; (with_reducible refine (m2.out _).mono ?_); rintro e w3 ⟨rfl, rfl⟩))
    all_goals go_ret
    all_goals (refine ⟨ret_int ?_, HL2.out.below⟩; have hp := HP.out; clear hL)
    all_goals first
      | rfl
      | (simp_all; done)
      | ((repeat' split) <;> first | rfl | omega | (exfalso; simp_all; done) | (exfalso; simp_all; omega))
      | trace_state

def invG (n d : Int) : (Int × Int) × Int := if ratV n d = true then ((d, n), 0) else ((0, 0), 1)
set_option maxHeartbeats 4000000 in
theorem inv_gen (n d : Int) (w : World) :
    Calls Try.prog 18 #[.agg #[.int .i64 n, .int .i64 d]] w fun e w' => e = .returned (.tuple #[.agg #[.int .i64 (invG n d).1.1, .int .i64 (invG n d).1.2], .int .i64 (invG n d).2]) ∧ Below w.heap.size w w' := by
  have c1 := hid (fun w => ratv_any n d w)
  cases h : ratV n d
  all_goals rw [h] at c1
  · have e : invG n d = ((0, 0), 1) := by unfold invG; rw [h]; rfl
    rw [e]
    clear e h
    go_enter Try.func18, Try.ntmps18
    go_wp2_with fail
    (with_reducible refine (c1.out _).mono ?_); rintro e w1 ⟨rfl, hb⟩; have HL := hid (Lv.kept (Lv.alloc (vs := [.int .i64 0, .int .i64 0]) (T := 23) (Lv.alloc (vs := [.int .i64 n, .int .i64 d]) (T := 23) (Lv.start w))) hb); clear hb
    have hL := HL.out.facts
    simp only [liveAt, cellsAt, and_true, Nat.zero_add, Nat.reduceAdd, World.size_alloc] at hL
    have hbl := HL.out.below
    have hz2 := HL.out.lt
    simp only [World.size_alloc] at hz2
    clear c1
    go_wp2
    all_goals first
      | (refine bodyPost_ret (by simp [results, Try.results18, go_sem, *]; try rfl) rfl ?_; exact ⟨rfl, by go_grown⟩)
      | trace_state
  · have e : invG n d = ((d, n), 0) := by unfold invG; rw [h]; rfl
    rw [e]
    clear e h
    go_enter Try.func18, Try.ntmps18
    go_wp2_with fail
    (with_reducible refine (c1.out _).mono ?_); rintro e w1 ⟨rfl, hb⟩; have HL := hid (Lv.kept (Lv.alloc (vs := [.int .i64 0, .int .i64 0]) (T := 23) (Lv.alloc (vs := [.int .i64 n, .int .i64 d]) (T := 23) (Lv.start w))) hb); clear hb
    have hL := HL.out.facts
    simp only [liveAt, cellsAt, and_true, Nat.zero_add, Nat.reduceAdd, World.size_alloc] at hL
    have hbl := HL.out.below
    have hz2 := HL.out.lt
    simp only [World.size_alloc] at hz2
    clear c1
    go_wp2
    all_goals first
      | (refine bodyPost_ret (by simp [results, Try.results18, go_sem, *]; try rfl) rfl ?_; exact ⟨rfl, by go_grown⟩)
      | trace_state
set_option maxHeartbeats 4000000 in
theorem rinv_gen (n d : Int) (w : World) :
    Calls Try.prog 19 #[.agg #[.int .i64 n, .int .i64 d]] w fun e w' => e = .returned (.tuple #[.agg #[.int .i64 (invG n d).1.1, .int .i64 (invG n d).1.2], .int .i64 (invG n d).2]) ∧ Below w.heap.size w w' := by
  have c1 := hid (fun w => rratv_any n d w)
  cases h : ratV n d
  all_goals rw [h] at c1
  · have e : invG n d = ((0, 0), 1) := by unfold invG; rw [h]; rfl
    rw [e]
    clear e h
    go_enter Try.func19, Try.ntmps19
    go_wp2_with fail
    (with_reducible refine (c1.out _).mono ?_); rintro e w1 ⟨rfl, hb⟩; have HL := hid (Lv.kept (Lv.alloc (vs := [.int .i64 0, .int .i64 0]) (T := 23) (Lv.alloc (vs := [.int .i64 n, .int .i64 d]) (T := 23) (Lv.start w))) hb); clear hb
    have hL := HL.out.facts
    simp only [liveAt, cellsAt, and_true, Nat.zero_add, Nat.reduceAdd, World.size_alloc] at hL
    have hbl := HL.out.below
    have hz2 := HL.out.lt
    simp only [World.size_alloc] at hz2
    clear c1
    go_wp2
    all_goals first
      | (refine bodyPost_ret (by simp [results, Try.results19, go_sem, *]; try rfl) rfl ?_; exact ⟨rfl, by go_grown⟩)
      | trace_state
  · have e : invG n d = ((d, n), 0) := by unfold invG; rw [h]; rfl
    rw [e]
    clear e h
    go_enter Try.func19, Try.ntmps19
    go_wp2_with fail
    (with_reducible refine (c1.out _).mono ?_); rintro e w1 ⟨rfl, hb⟩; have HL := hid (Lv.kept (Lv.alloc (vs := [.int .i64 0, .int .i64 0]) (T := 23) (Lv.alloc (vs := [.int .i64 n, .int .i64 d]) (T := 23) (Lv.start w))) hb); clear hb
    have hL := HL.out.facts
    simp only [liveAt, cellsAt, and_true, Nat.zero_add, Nat.reduceAdd, World.size_alloc] at hL
    have hbl := HL.out.below
    have hz2 := HL.out.lt
    simp only [World.size_alloc] at hz2
    clear c1
    go_wp2
    all_goals first
      | (refine bodyPost_ret (by simp [results, Try.results19, go_sem, *]; try rfl) rfl ?_; exact ⟨rfl, by go_grown⟩)
      | trace_state
set_option maxHeartbeats 4000000 in
theorem mul_bad (an ad bn bd : Int) (h : ¬ (ratV an ad = true ∧ ratV bn bd = true)) (w : World) :
    Calls Try.prog 16 #[.agg #[.int .i64 an, .int .i64 ad], .agg #[.int .i64 bn, .int .i64 bd]] w fun e w' => e = .returned (.tuple #[.agg #[.int .i64 0, .int .i64 0], .int .i64 1]) ∧ Below w.heap.size w w' := by
  have c1 := hid (fun w => ratv_any an ad w)
  have c2 := hid (fun w => ratv_any bn bd w)
  cases h1 : ratV an ad
  · rw [h1] at c1
    clear h1 h c2
    go_enter Try.func16, Try.ntmps16
    go_wp2_with fail
    (with_reducible refine (c1.out _).mono ?_); rintro e w1 ⟨rfl, hb⟩; have HL := hid (Lv.kept (Lv.alloc (vs := [.int .i64 0, .int .i64 0]) (T := 23) (Lv.alloc (vs := [.int .i64 bn, .int .i64 bd]) (T := 23) (Lv.alloc (vs := [.int .i64 an, .int .i64 ad]) (T := 23) (Lv.start w)))) hb); clear hb
    have hL := HL.out.facts
    simp only [liveAt, cellsAt, and_true, Nat.zero_add, Nat.reduceAdd, World.size_alloc] at hL
    have hbl := HL.out.below
    have hz2 := HL.out.lt
    simp only [World.size_alloc] at hz2
    clear c1
    go_wp2
    all_goals first
      | (refine bodyPost_ret (by simp [results, Try.results16, go_sem, *]; try rfl) rfl ?_; exact ⟨rfl, by go_grown⟩)
      | trace_state
  · have h2 : ratV bn bd = false := by cases q : ratV bn bd <;> simp_all
    rw [h1] at c1
    rw [h2] at c2
    clear h1 h2 h
    go_enter Try.func16, Try.ntmps16
    go_wp2_with fail
    (with_reducible refine (c1.out _).mono ?_); rintro e w1 ⟨rfl, hb⟩; have HL := hid (Lv.kept (Lv.alloc (vs := [.int .i64 0, .int .i64 0]) (T := 23) (Lv.alloc (vs := [.int .i64 bn, .int .i64 bd]) (T := 23) (Lv.alloc (vs := [.int .i64 an, .int .i64 ad]) (T := 23) (Lv.start w)))) hb); clear hb
    have hL := HL.out.facts
    simp only [liveAt, cellsAt, and_true, Nat.zero_add, Nat.reduceAdd, World.size_alloc] at hL
    go_wp2_with fail
    (with_reducible refine (c2.out _).mono ?_); rintro e w2 ⟨rfl, hb⟩; have HL2 := hid (HL.out.kept hb); clear hb hL HL
    have hL := HL2.out.facts
    simp only [liveAt, cellsAt, and_true, Nat.zero_add, Nat.reduceAdd, World.size_alloc] at hL
    have hbl := HL2.out.below
    have hz2 := HL2.out.lt
    simp only [World.size_alloc] at hz2
    clear c1 c2
    go_wp2
    all_goals first
      | (refine bodyPost_ret (by simp [results, Try.results16, go_sem, *]; try rfl) rfl ?_; exact ⟨rfl, by go_grown⟩)
      | trace_state
set_option maxHeartbeats 4000000 in
theorem rmul_bad (an ad bn bd : Int) (h : ¬ (ratV an ad = true ∧ ratV bn bd = true)) (w : World) :
    Calls Try.prog 17 #[.agg #[.int .i64 an, .int .i64 ad], .agg #[.int .i64 bn, .int .i64 bd]] w fun e w' => e = .returned (.tuple #[.agg #[.int .i64 0, .int .i64 0], .int .i64 1]) ∧ Below w.heap.size w w' := by
  have c1 := hid (fun w => rratv_any an ad w)
  have c2 := hid (fun w => rratv_any bn bd w)
  cases h1 : ratV an ad
  · rw [h1] at c1
    clear h1 h c2
    go_enter Try.func17, Try.ntmps17
    go_wp2_with fail
    (with_reducible refine (c1.out _).mono ?_); rintro e w1 ⟨rfl, hb⟩; have HL := hid (Lv.kept (Lv.alloc (vs := [.int .i64 0, .int .i64 0]) (T := 23) (Lv.alloc (vs := [.int .i64 bn, .int .i64 bd]) (T := 23) (Lv.alloc (vs := [.int .i64 an, .int .i64 ad]) (T := 23) (Lv.start w)))) hb); clear hb
    have hL := HL.out.facts
    simp only [liveAt, cellsAt, and_true, Nat.zero_add, Nat.reduceAdd, World.size_alloc] at hL
    have hbl := HL.out.below
    have hz2 := HL.out.lt
    simp only [World.size_alloc] at hz2
    clear c1
    go_wp2
    all_goals first
      | (refine bodyPost_ret (by simp [results, Try.results17, go_sem, *]; try rfl) rfl ?_; exact ⟨rfl, by go_grown⟩)
      | trace_state
  · have h2 : ratV bn bd = false := by cases q : ratV bn bd <;> simp_all
    rw [h1] at c1
    rw [h2] at c2
    clear h1 h2 h
    go_enter Try.func17, Try.ntmps17
    go_wp2_with fail
    (with_reducible refine (c1.out _).mono ?_); rintro e w1 ⟨rfl, hb⟩; have HL := hid (Lv.kept (Lv.alloc (vs := [.int .i64 0, .int .i64 0]) (T := 23) (Lv.alloc (vs := [.int .i64 bn, .int .i64 bd]) (T := 23) (Lv.alloc (vs := [.int .i64 an, .int .i64 ad]) (T := 23) (Lv.start w)))) hb); clear hb
    have hL := HL.out.facts
    simp only [liveAt, cellsAt, and_true, Nat.zero_add, Nat.reduceAdd, World.size_alloc] at hL
    go_wp2_with fail
    (with_reducible refine (c2.out _).mono ?_); rintro e w2 ⟨rfl, hb⟩; have HL2 := hid (HL.out.kept hb); clear hb hL HL
    have hL := HL2.out.facts
    simp only [liveAt, cellsAt, and_true, Nat.zero_add, Nat.reduceAdd, World.size_alloc] at hL
    have hbl := HL2.out.below
    have hz2 := HL2.out.lt
    simp only [World.size_alloc] at hz2
    clear c1 c2
    go_wp2
    all_goals first
      | (refine bodyPost_ret (by simp [results, Try.results17, go_sem, *]; try rfl) rfl ?_; exact ⟨rfl, by go_grown⟩)
      | trace_state
end Go.Proofs.Ytkdlpbpaoemcaaa
