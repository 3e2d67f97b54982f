/- Phases: what is needed. No statement is proved here. -/
import Derived.Test.YtmgkbgnjpgkdiaaPhAt
namespace Go.Proofs.Ytmgkbgnjpgkdiaa
open Go.ChangeShapes Go.WideShapes Go.ChangeAt Go.RowKit
set_option linter.unusedVariables false
set_option linter.unusedSimpArgs false

theorem ret_t2 {a b : Int} {c : Value} (h : a = b) : Ending.returned (.tuple #[.int .i64 a, c]) = .returned (.tuple #[.int .i64 b, c]) := by rw [h]
theorem nd_bd {n d a f k : Int} (hn : 1 ≤ n ∧ n ≤ 768000) (ha : -4096 ≤ a ∧ a ≤ 4096) (hd : 1 ≤ d ∧ d ≤ 768000) (hf : 0 ≤ f ∧ f < d * 65536) (hk : 1 ≤ k) (hk2 : k ≤ 65536) :
    (0 ≤ mv n a f (k - 1) ∧ 0 ≤ mv n a f (k - 1) / (d * 65536) ∧ mv n a f (k - 1) / (d * 65536) ≤ 3504743645184000) ∧ (0 ≤ mv n a f k ∧ 0 ≤ mv n a f k / (d * 65536) ∧ mv n a f k / (d * 65536) ≤ 3504743645184000) := by
  have h1 := mv_bd hn ha hd hf (show 0 ≤ k - 1 by omega) (by omega)
  have h2 := mv_bd hn ha hd hf (show 0 ≤ k by omega) hk2
  exact ⟨⟨h1.2.2.1, h1.2.2.2.2.1, h1.2.2.2.2.2.1⟩, h2.2.2.1, h2.2.2.2.2.1, h2.2.2.2.2.2.1⟩
set_option maxHeartbeats 8000000 in
theorem need_any (n d a p f k : Int) (h : PhP n d a p f) (hk : 0 ≤ k) (hk2 : k ≤ 65536) (w : World) :
    Calls Try.prog 35 #[.agg #[.int .i64 n, .int .i64 d, .int .i64 a, .int .i64 p, .int .i64 f], .int .i64 k] w fun e w' => e = .returned (.int .i64 (nd n d a f k)) ∧ Below w.heap.size w w' := by
  by_cases h0 : k = 0
  · subst h0
    have e : nd n d a f 0 = 0 := by unfold nd; simp
    rw [e]
    go_enter Try.func35, Try.ntmps35
    go_wp2
    go_ret
    exact ⟨rfl, by go_grown⟩
  · have e : nd n d a f k = max (mv n a f (k - 1) / (d * 65536) + 2) (mv n a f k / (d * 65536)) := by unfold nd; rw [if_neg h0]
    rw [e]
    have cA := hid (fun w => moved_any n d a p f (k - 1) h (by omega) (by omega) w)
    have cB := hid (fun w => moved_any n d a p f k h (by omega) (by omega) w)
    obtain ⟨hn, hd, ha, hp, hf⟩ := h
    obtain ⟨⟨b1, b2, b3⟩, b4, b5, b6⟩ := nd_bd hn ha hd hf (show 1 ≤ k by omega) hk2
    have q1 := (mv_tdiv (d := d) b1).1
    have q2 := (mv_tdiv (d := d) b4).1
    have c3 := hid (fun w => parts_any n d a p f (by omega) (by omega) w)
    have g0 : (d * 65536 == 0) = false := by simp; omega
    have g1 : ¬ d * 65536 = 0 := by omega
    have u0 : IntKind.i64.wrap (k - 1) = k - 1 := IntWalk.i64_in _ (by omega)
    have u1 : IntKind.i64.wrap (mv n a f (k - 1) / (d * 65536)) = mv n a f (k - 1) / (d * 65536) := IntWalk.i64_in _ (by omega)
    have u2 : IntKind.i64.wrap (mv n a f k / (d * 65536)) = mv n a f k / (d * 65536) := IntWalk.i64_in _ (by omega)
    have u3 : IntKind.i64.wrap (mv n a f (k - 1) / (d * 65536) + 2) = mv n a f (k - 1) / (d * 65536) + 2 := IntWalk.i64_in _ (by omega)
    have hk0 : (k == 0) = false := by simp; omega
    clear hn hd ha hf hp b1 b2 b3 b4 b5 b6 e hk hk2
    generalize d * 65536 = D at *
    generalize mv n a f (k - 1) / D = X at *
    generalize mv n a f k / D = Y at *
    generalize mv n a f (k - 1) = MA at *
    generalize mv n a f k = MB at *
    have hl := (Lv.alloc (vs := [.int .i64 n, .int .i64 d, .int .i64 a, .int .i64 p, .int .i64 f]) (T := 25) (Lv.start w)).drew
    go_enter Try.func35, Try.ntmps35
    go_upto_region 3 with (fail)
    have hc := cells5 hl
    generalize w.alloc (.cells #[.int .i64 n, .int .i64 d, .int .i64 a, .int .i64 p, .int .i64 f] 25) = W1 at *
    generalize w.heap.size = BX at *
    go_region_held3 (fun w' => w'.cell? ⟨BX, 0, none⟩ = some (.int .i64 n) ∧ w'.cell? ⟨BX, 1, none⟩ = some (.int .i64 d) ∧ w'.cell? ⟨BX, 2, none⟩ = some (.int .i64 a) ∧ w'.cell? ⟨BX, 3, none⟩ = some (.int .i64 p) ∧ w'.cell? ⟨BX, 4, none⟩ = some (.int .i64 f)) (first | assumption | exact cells5 (by assumption)) (first
      | (go_at_call 28; (with_reducible refine (cA.out _).mono ?_); rintro e w8 ⟨rfl, hb⟩; have hl := Lv.kept (by assumption) hb; clear hb)
      | (go_at_call 28; (with_reducible refine (cB.out _).mono ?_); rintro e w8 ⟨rfl, hb⟩; have hl := Lv.kept (by assumption) hb; clear hb)
      | (go_at_call 29; (with_reducible refine (c3.out _).mono ?_); rintro e w8 ⟨rfl, hb⟩; have hl := Lv.kept (by assumption) hb; clear hb))
    all_goals (go_wp2_with fail)
    all_goals (go_ret; exact ⟨ret_int (by omega), hl.below⟩)
set_option maxHeartbeats 8000000 in
theorem pneed_ok (n d a p f k : Int) (h : phV n d a p f = true) (hk : 0 ≤ k) (hk2 : k ≤ 65536) (w : World) :
    Calls Try.prog 21 #[.agg #[.int .i64 n, .int .i64 d, .int .i64 a, .int .i64 p, .int .i64 f], .int .i64 k] w fun e w' => e = .returned (.tuple #[.int .i64 (nd n d a f k), .int .i64 0]) ∧ Below w.heap.size w w' := by
  have c1 := hid (fun w => check_any n d a p f k 65536 w)
  rw [chkE_ok h hk hk2] at c1
  have c2 := hid (fun w => need_any n d a p f k (phV_P h) hk hk2 w)
  generalize nd n d a f k = V at *
  go_enter Try.func21, Try.ntmps21
  go_wp2_with fail
  (with_reducible refine (c1.out _).mono ?_); rintro e w1 ⟨rfl, hb⟩; have HL := hid (Lv.kept (Lv.alloc (vs := [.int .i64 n, .int .i64 d, .int .i64 a, .int .i64 p, .int .i64 f]) (T := 25) (Lv.start w)) hb); clear hb c1
  have hL := HL.out.facts
  simp only [liveAt, cellsAt, and_true, Nat.zero_add, Nat.reduceAdd, World.size_alloc] at hL
  go_wp2_with fail
  (with_reducible refine (c2.out _).mono ?_); rintro e w2 ⟨rfl, hb⟩; have HL2 := hid (HL.out.kept hb); clear hb c2 hL HL
  go_wp2_with fail
  go_returns
  exact ⟨rfl, HL2.out.below⟩
set_option maxHeartbeats 8000000 in
theorem pneed_bad (n d a p f k : Int) (h : ¬ (phV n d a p f = true ∧ 0 ≤ k ∧ k ≤ 65536)) (w : World) :
    Calls Try.prog 21 #[.agg #[.int .i64 n, .int .i64 d, .int .i64 a, .int .i64 p, .int .i64 f], .int .i64 k] w fun e w' => e = .returned (.tuple #[.int .i64 0, .int .i64 (chkE (phV n d a p f) k 65536)]) ∧ Below w.heap.size w w' := by
  have c1 := hid (fun w => check_any n d a p f k 65536 w)
  obtain ⟨z1, z2⟩ := chkE_bad h
  clear h
  generalize chkE (phV n d a p f) k 65536 = E at *
  go_enter Try.func21, Try.ntmps21
  go_wp2_with fail
  (with_reducible refine (c1.out _).mono ?_); rintro e w1 ⟨rfl, hb⟩; have HL := hid (Lv.kept (Lv.alloc (vs := [.int .i64 n, .int .i64 d, .int .i64 a, .int .i64 p, .int .i64 f]) (T := 25) (Lv.start w)) hb); clear hb c1
  go_wp2_with fail
  go_returns
  exact ⟨rfl, HL.out.below⟩
set_option maxHeartbeats 8000000 in
theorem rneed_ok (n d a p f k : Int) (h : phV n d a p f = true) (hk : 0 ≤ k) (hk2 : k ≤ 65536) (w : World) :
    Calls Try.prog 22 #[.agg #[.int .i64 n, .int .i64 d, .int .i64 a, .int .i64 p, .int .i64 f], .int .i64 k] w fun e w' => e = .returned (.tuple #[.int .i64 (nd n d a f k), .int .i64 0]) ∧ Below w.heap.size w w' := by
  have c1 := hid (fun w => rat_ok n d a p f k h hk hk2 w)
  by_cases h0 : k = 0
  · subst h0
    have e : nd n d a f 0 = 0 := by unfold nd; simp
    rw [e]
    generalize p + mv n a f 0 / (d * 65536) = X at *
    generalize mv n a f 0 % (d * 65536) = Y at *
    go_enter Try.func22, Try.ntmps22
    go_wp2_with fail
    (with_reducible refine (c1.out _).mono ?_); rintro e w1 ⟨rfl, hb⟩; have HL := hid (Lv.kept (Lv.alloc (vs := [.int .i64 n, .int .i64 d, .int .i64 a, .int .i64 p, .int .i64 f]) (T := 25) (Lv.start w)) hb); clear hb c1
    have hL := HL.out.facts
    simp only [liveAt, cellsAt, and_true, Nat.zero_add, Nat.reduceAdd, World.size_alloc] at hL
    go_wp2_with fail
    go_returns
    exact ⟨rfl, HL.out.below⟩
  · have e : nd n d a f k = max (mv n a f (k - 1) / (d * 65536) + 2) (mv n a f k / (d * 65536)) := by unfold nd; rw [if_neg h0]
    rw [e]
    have c2 := hid (fun w => rat_ok n d a p f (k - 1) h (by omega) (by omega) w)
    obtain ⟨hn, hd, ha, hp, hf⟩ := phV_P h
    obtain ⟨⟨b1, b2, b3⟩, b4, b5, b6⟩ := nd_bd hn ha hd hf (show 1 ≤ k by omega) hk2
    have hk0 : (k == 0) = false := by simp; omega
    have u0 : IntKind.i64.wrap (k - 1) = k - 1 := IntWalk.i64_in _ (by omega)
    clear hn hd ha hf b1 b4 e h
    generalize mv n a f (k - 1) / (d * 65536) = X at *
    generalize mv n a f k / (d * 65536) = Y at *
    generalize mv n a f (k - 1) % (d * 65536) = R1 at *
    generalize mv n a f k % (d * 65536) = R2 at *
    go_enter Try.func22, Try.ntmps22
    go_wp2_with fail
    (with_reducible refine (c1.out _).mono ?_); rintro e w1 ⟨rfl, hb⟩; have HL := hid (Lv.kept (Lv.alloc (vs := [.int .i64 n, .int .i64 d, .int .i64 a, .int .i64 p, .int .i64 f]) (T := 25) (Lv.start w)) hb); clear hb c1
    have hL := HL.out.facts
    simp only [liveAt, cellsAt, and_true, Nat.zero_add, Nat.reduceAdd, World.size_alloc] at hL
    go_wp2_with fail
    (with_reducible refine (c2.out _).mono ?_); rintro e w2 ⟨rfl, hb⟩; have HL2 := hid (HL.out.kept hb); clear hb c2 hL HL
    have hL := HL2.out.facts
    simp only [liveAt, cellsAt, and_true, Nat.zero_add, Nat.reduceAdd, World.size_alloc] at hL
    go_wp2_with fail
    all_goals (go_returns; exact ⟨ret_t2 (by omega), HL2.out.below⟩)
set_option maxHeartbeats 8000000 in
theorem rneed_bad (n d a p f k : Int) (h : ¬ (phV n d a p f = true ∧ 0 ≤ k ∧ k ≤ 65536)) (w : World) :
    Calls Try.prog 22 #[.agg #[.int .i64 n, .int .i64 d, .int .i64 a, .int .i64 p, .int .i64 f], .int .i64 k] w fun e w' => e = .returned (.tuple #[.int .i64 0, .int .i64 (chkE (phV n d a p f) k 65536)]) ∧ Below w.heap.size w w' := by
  have c1 := hid (fun w => rat_bad n d a p f k h w)
  obtain ⟨z1, z2⟩ := chkE_bad h
  clear h
  generalize chkE (phV n d a p f) k 65536 = E at *
  go_enter Try.func22, Try.ntmps22
  go_wp2_with fail
  (with_reducible refine (c1.out _).mono ?_); rintro e w1 ⟨rfl, hb⟩; have HL := hid (Lv.kept (Lv.alloc (vs := [.int .i64 n, .int .i64 d, .int .i64 a, .int .i64 p, .int .i64 f]) (T := 25) (Lv.start w)) hb); clear hb c1
  go_wp2_with fail
  go_returns
  exact ⟨rfl, HL.out.below⟩
end Go.Proofs.Ytmgkbgnjpgkdiaa
