/- Phases: positions. No statement is proved here. -/
import Derived.Test.YtmgkbgnjpgkdiaaPhRValid
namespace Go.Proofs.Ytmgkbgnjpgkdiaa
open Go.ChangeShapes Go.WideShapes Go.ChangeAt Go.RowKit
set_option linter.unusedVariables false
set_option linter.unusedSimpArgs false

def chkE (V : Bool) (x m : Int) : Int := if V = true then (if x < 0 ∨ m < x then 2 else 0) else 1
theorem chkE_bad {V : Bool} {x m : Int} (h : ¬ (V = true ∧ 0 ≤ x ∧ x ≤ m)) : (chkE V x m != 0) = true ∧ (chkE V x m == 0) = false := by
  have : chkE V x m ≠ 0 := by
    unfold chkE
    cases V
    · simp
    · have h : ¬ (0 ≤ x ∧ x ≤ m) := fun k => h ⟨rfl, k⟩
      rw [if_pos rfl, if_pos (by omega)]; omega
  simp [this]
theorem chkE_ok {V : Bool} {x m : Int} (h : V = true) (h1 : 0 ≤ x) (h2 : x ≤ m) : chkE V x m = 0 := by
  unfold chkE; rw [if_pos h, if_neg (by omega)]
theorem chkE_cases {V : Bool} {x m : Int} : (V = false ∧ chkE V x m = 1) ∨ (V = true ∧ (x < 0 ∨ m < x) ∧ chkE V x m = 2) ∨ (V = true ∧ 0 ≤ x ∧ x ≤ m ∧ chkE V x m = 0) := by
  unfold chkE
  cases V
  · left; simp
  · right
    by_cases h : x < 0 ∨ m < x
    · left; exact ⟨rfl, h, by simp [h]⟩
    · right; exact ⟨rfl, by omega, by omega, by rw [if_pos rfl, if_neg h]⟩
set_option maxHeartbeats 4000000 in
theorem check_any (n d a p f x m : Int) (w : World) :
    Calls Try.prog 27 #[.agg #[.int .i64 n, .int .i64 d, .int .i64 a, .int .i64 p, .int .i64 f], .int .i64 x, .int .i64 m] w fun e w' => e = .returned (.int .i64 (chkE (phV n d a p f) x m)) ∧ Below w.heap.size w w' := by
  have c := hid (fun w => pvalid_any n d a p f w)
  generalize phV n d a p f = V at *
  go_enter Try.func27, Try.ntmps27
  go_wp2_with fail
  (with_reducible refine (c.out _).mono ?_); rintro e w1 ⟨rfl, hb⟩; have HL := hid (Lv.kept (Lv.alloc (vs := [.int .i64 n, .int .i64 d, .int .i64 a, .int .i64 p, .int .i64 f]) (T := 25) (Lv.start w)) hb); clear hb c
  go_wp2_with fail
  all_goals (go_ret; refine ⟨ret_int ?_, HL.out.below⟩; rcases chkE_cases (V := V) (x := x) (m := m) with ⟨h1, h2⟩ | ⟨h1, h2, h3⟩ | ⟨h1, h2, h3, h4⟩ <;> simp_all <;> omega)
set_option maxHeartbeats 4000000 in
theorem moved_any (n d a p f i : Int) (h : PhP n d a p f) (hi : 0 ≤ i) (hi2 : i ≤ 65536) (w : World) :
    Calls Try.prog 28 #[.agg #[.int .i64 n, .int .i64 d, .int .i64 a, .int .i64 p, .int .i64 f], .int .i64 i] w fun e w' => e = .returned (.int .i64 (mv n a f i)) ∧ Below w.heap.size w w' := by
  obtain ⟨hn, hd, ha, hp, hf⟩ := h
  obtain ⟨b1, b2, b3, b4, _⟩ := mv_bd hn ha hd hf hi hi2
  have c := hid (fun w => step_any n d a p f hn.1 hn.2 ha.1 ha.2 w)
  have e1 : IntKind.i64.wrap (i * (n * (65536 + a))) = i * (n * (65536 + a)) := IntWalk.i64_in _ (by omega)
  have e2 : IntKind.i64.wrap (f + i * (n * (65536 + a))) = f + i * (n * (65536 + a)) := IntWalk.i64_in _ (by unfold mv at b3 b4; omega)
  have hM : mv n a f i = f + i * (n * (65536 + a)) := rfl
  rw [hM]
  clear hM b1 b2 b3 b4 hn hd ha hp hf
  generalize n * (65536 + a) = T at *
  have hl := (Lv.alloc (vs := [.int .i64 n, .int .i64 d, .int .i64 a, .int .i64 p, .int .i64 f]) (T := 25) (Lv.start w)).drew
  go_enter Try.func28, Try.ntmps28
  go_upto_region 1 with (fail)
  have hc := cells5 hl
  generalize w.alloc (.cells #[.int .i64 n, .int .i64 d, .int .i64 a, .int .i64 p, .int .i64 f] 25) = W1 at *
  generalize w.heap.size = BX at *
  go_region_held3 (fun w' => w'.cell? ⟨BX, 0, none⟩ = some (.int .i64 n) ∧ w'.cell? ⟨BX, 1, none⟩ = some (.int .i64 d) ∧ w'.cell? ⟨BX, 2, none⟩ = some (.int .i64 a) ∧ w'.cell? ⟨BX, 3, none⟩ = some (.int .i64 p) ∧ w'.cell? ⟨BX, 4, none⟩ = some (.int .i64 f)) (first | assumption | exact cells5 (by assumption)) (first
    | (go_at_call 40; (with_reducible refine (c.out _).mono ?_); rintro e w8 ⟨rfl, hb⟩; have hl := Lv.kept (by assumption) hb; clear hb))
  go_wp2_with fail
  go_ret
  exact ⟨rfl, hl.below⟩
set_option maxHeartbeats 8000000 in
theorem at_ok (n d a p f i : Int) (h : phV n d a p f = true) (hi : 0 ≤ i) (hi2 : i ≤ 65536) (w : World) :
    Calls Try.prog 11 #[.agg #[.int .i64 n, .int .i64 d, .int .i64 a, .int .i64 p, .int .i64 f], .int .i64 i] w fun e w' => e = .returned (.tuple #[.int .i64 (p + mv n a f i / (d * 65536)), .int .i64 (mv n a f i % (d * 65536)), .int .i64 0]) ∧ Below w.heap.size w w' := by
  have c1 := hid (fun w => check_any n d a p f i 65536 w)
  rw [chkE_ok h hi hi2] at c1
  have hP := phV_P h
  have c2 := hid (fun w => moved_any n d a p f i hP hi hi2 w)
  obtain ⟨hn, hd, ha, hp, hf⟩ := hP
  obtain ⟨b1, b2, b3, b4, b5, b6, b7, b8⟩ := mv_bd hn ha hd hf hi hi2
  obtain ⟨q1, q2⟩ := mv_tdiv (d := d) b3
  have c3 := hid (fun w => parts_any n d a p f (by omega) (by omega) w)
  have g0 : (d * 65536 == 0) = false := by simp; omega
  have g1 : ¬ d * 65536 = 0 := by omega
  have u1 : IntKind.i64.wrap (mv n a f i / (d * 65536)) = mv n a f i / (d * 65536) := IntWalk.i64_in _ (by omega)
  have u2 : IntKind.i64.wrap (mv n a f i % (d * 65536)) = mv n a f i % (d * 65536) := IntWalk.i64_in _ (by omega)
  have u3 : IntKind.i64.wrap (p + mv n a f i / (d * 65536)) = p + mv n a f i / (d * 65536) := IntWalk.i64_in _ (by omega)
  clear hn hd ha hf h
  clear b1 b2 b3 b4 b5 b6 b7 b8 hp



  generalize d * 65536 = D at *
  generalize mv n a f i / D = X at *
  generalize mv n a f i % D = Y at *
  generalize mv n a f i = M at *
  go_enter Try.func11, Try.ntmps11
  go_wp2_with fail
  (with_reducible refine (c1.out _).mono ?_); rintro e w1 ⟨rfl, hb⟩; have HL := hid (Lv.kept (Lv.alloc (vs := [.int .i64 n, .int .i64 d, .int .i64 a, .int .i64 p, .int .i64 f]) (T := 25) (Lv.start w)) hb); clear hb c1
  have hL := HL.out.facts
  simp only [liveAt, cellsAt, and_true, Nat.zero_add, Nat.reduceAdd, World.size_alloc] at hL
  go_wp2_with fail
  (with_reducible refine (c2.out _).mono ?_); rintro e w2 ⟨rfl, hb⟩; have HL2 := hid (HL.out.kept hb); clear hb c2 hL HL
  go_upto_region 5 with (fail)
  have hl := HL2.out.drew
  clear HL2
  have hc := cells5 hl
  generalize w.heap.size = BX at *
  go_region_held3 (fun w' => w'.cell? ⟨BX, 0, none⟩ = some (.int .i64 n) ∧ w'.cell? ⟨BX, 1, none⟩ = some (.int .i64 d) ∧ w'.cell? ⟨BX, 2, none⟩ = some (.int .i64 a) ∧ w'.cell? ⟨BX, 3, none⟩ = some (.int .i64 p) ∧ w'.cell? ⟨BX, 4, none⟩ = some (.int .i64 f)) (first | assumption | exact cells5 (by assumption)) (first
    | (go_at_call 29; (with_reducible refine (c3.out _).mono ?_); rintro e w8 ⟨rfl, hb⟩; have hl := Lv.kept (by assumption) hb; clear hb))
  go_wp2_with fail
  have hbel := hl.below
  clear hl hc
  go_returns
  exact ⟨rfl, hbel⟩
set_option maxHeartbeats 8000000 in
theorem at_bad (n d a p f i : Int) (h : ¬ (phV n d a p f = true ∧ 0 ≤ i ∧ i ≤ 65536)) (w : World) :
    Calls Try.prog 11 #[.agg #[.int .i64 n, .int .i64 d, .int .i64 a, .int .i64 p, .int .i64 f], .int .i64 i] w fun e w' => e = .returned (.tuple #[.int .i64 0, .int .i64 0, .int .i64 (chkE (phV n d a p f) i 65536)]) ∧ Below w.heap.size w w' := by
  have c1 := hid (fun w => check_any n d a p f i 65536 w)
  obtain ⟨z1, z2⟩ := chkE_bad h
  clear h
  generalize chkE (phV n d a p f) i 65536 = E at *
  go_enter Try.func11, Try.ntmps11
  go_wp2_with fail
  (with_reducible refine (c1.out _).mono ?_); rintro e w1 ⟨rfl, hb⟩; have HL := hid (Lv.kept (Lv.alloc (vs := [.int .i64 n, .int .i64 d, .int .i64 a, .int .i64 p, .int .i64 f]) (T := 25) (Lv.start w)) hb); clear hb c1
  have hL := HL.out.facts
  simp only [liveAt, cellsAt, and_true, Nat.zero_add, Nat.reduceAdd, World.size_alloc] at hL
  go_wp2_with fail
  go_returns
  exact ⟨rfl, HL.out.below⟩
set_option maxHeartbeats 8000000 in
theorem rat_ok (n d a p f i : Int) (h : phV n d a p f = true) (hi : 0 ≤ i) (hi2 : i ≤ 65536) (w : World) :
    Calls Try.prog 12 #[.agg #[.int .i64 n, .int .i64 d, .int .i64 a, .int .i64 p, .int .i64 f], .int .i64 i] w fun e w' => e = .returned (.tuple #[.int .i64 (p + mv n a f i / (d * 65536)), .int .i64 (mv n a f i % (d * 65536)), .int .i64 0]) ∧ Below w.heap.size w w' := by
  have c1 := hid (fun w => rvalid_any n d a p f w)
  rw [h] at c1
  have hP := phV_P h
  obtain ⟨hn, hd, ha, hp, hf⟩ := hP
  obtain ⟨b1, b2, b3, b4, b5, b6, b7, b8⟩ := mv_bd hn ha hd hf hi hi2
  obtain ⟨q1, q2⟩ := mv_tdiv (d := d) b3
  have c2 := hid (fun w => rstep_any n d a p f hn.1 hn.2 ha.1 ha.2 w)
  have hM : mv n a f i = f + i * (n * (65536 + a)) := rfl
  have e1 : IntKind.i64.wrap (i * (n * (65536 + a))) = i * (n * (65536 + a)) := IntWalk.i64_in _ (by omega)
  have e2 : IntKind.i64.wrap (f + i * (n * (65536 + a))) = f + i * (n * (65536 + a)) := IntWalk.i64_in _ (by rw [hM] at b3 b4; omega)
  have c3 := hid (fun w => rparts_any n d a p f (by omega) (by omega) w)
  have g0 : (d * 65536 == 0) = false := by simp; omega
  have g1 : ¬ d * 65536 = 0 := by omega
  have u1 : IntKind.i64.wrap (mv n a f i / (d * 65536)) = mv n a f i / (d * 65536) := IntWalk.i64_in _ (by omega)
  have u2 : IntKind.i64.wrap (mv n a f i % (d * 65536)) = mv n a f i % (d * 65536) := IntWalk.i64_in _ (by omega)
  have u3 : IntKind.i64.wrap (p + mv n a f i / (d * 65536)) = p + mv n a f i / (d * 65536) := IntWalk.i64_in _ (by omega)
  clear hn hd ha hf h
  clear b1 b2 b3 b4 b5 b6 b7 b8 hp
  rw [hM] at q1 q2 u1 u2 u3 ⊢
  clear hM
  generalize n * (65536 + a) = T at *
  generalize d * 65536 = D at *
  generalize (f + i * T) / D = X at *
  generalize (f + i * T) % D = Y at *
  have hi' : ¬ (i < 0) := by omega
  have hi'' : ¬ (65536 < i) := by omega
  go_enter Try.func12, Try.ntmps12
  go_wp2_with fail
  (with_reducible refine (c1.out _).mono ?_); rintro e w1 ⟨rfl, hb⟩; have HL := hid (Lv.kept (Lv.alloc (vs := [.int .i64 n, .int .i64 d, .int .i64 a, .int .i64 p, .int .i64 f]) (T := 25) (Lv.start w)) hb); clear hb c1
  have hL := HL.out.facts
  simp only [liveAt, cellsAt, and_true, Nat.zero_add, Nat.reduceAdd, World.size_alloc] at hL
  go_upto_region 5 with (fail)
  have hl := HL.out.drew
  clear HL hL
  have hc := cells5 hl
  generalize w.heap.size = BX at *
  go_region_held3 (fun w' => w'.cell? ⟨BX, 0, none⟩ = some (.int .i64 n) ∧ w'.cell? ⟨BX, 1, none⟩ = some (.int .i64 d) ∧ w'.cell? ⟨BX, 2, none⟩ = some (.int .i64 a) ∧ w'.cell? ⟨BX, 3, none⟩ = some (.int .i64 p) ∧ w'.cell? ⟨BX, 4, none⟩ = some (.int .i64 f)) (first | assumption | exact cells5 (by assumption)) (first
    | (go_at_call 30; (with_reducible refine (c2.out _).mono ?_); rintro e w8 ⟨rfl, hb⟩; have hl := Lv.kept (by assumption) hb; clear hb))
  clear c2
  go_upto_region 6 with (fail)
  have hl := hl.drew
  have hc := cells5 hl
  go_region_held3 (fun w' => w'.cell? ⟨BX, 0, none⟩ = some (.int .i64 n) ∧ w'.cell? ⟨BX, 1, none⟩ = some (.int .i64 d) ∧ w'.cell? ⟨BX, 2, none⟩ = some (.int .i64 a) ∧ w'.cell? ⟨BX, 3, none⟩ = some (.int .i64 p) ∧ w'.cell? ⟨BX, 4, none⟩ = some (.int .i64 f)) (first | assumption | exact cells5 (by assumption)) (first
    | (go_at_call 31; (with_reducible refine (c3.out _).mono ?_); rintro e w8 ⟨rfl, hb⟩; have hl := Lv.kept (by assumption) hb; clear hb))
  go_wp2_with fail
  have hbel := hl.below
  clear hl hc
  go_returns
  exact ⟨rfl, hbel⟩
set_option maxHeartbeats 8000000 in
theorem rat_bad (n d a p f i : Int) (h : ¬ (phV n d a p f = true ∧ 0 ≤ i ∧ i ≤ 65536)) (w : World) :
    Calls Try.prog 12 #[.agg #[.int .i64 n, .int .i64 d, .int .i64 a, .int .i64 p, .int .i64 f], .int .i64 i] w fun e w' => e = .returned (.tuple #[.int .i64 0, .int .i64 0, .int .i64 (chkE (phV n d a p f) i 65536)]) ∧ Below w.heap.size w w' := by
  have c1 := hid (fun w => rvalid_any n d a p f w)
  have HX := hid h
  have HC := hid (chkE_cases (V := phV n d a p f) (x := i) (m := 65536))
  clear h
  generalize phV n d a p f = V at *
  generalize chkE V i 65536 = E at *
  go_enter Try.func12, Try.ntmps12
  go_wp2_with fail
  (with_reducible refine (c1.out _).mono ?_); rintro e w1 ⟨rfl, hb⟩; have HL := hid (Lv.kept (Lv.alloc (vs := [.int .i64 n, .int .i64 d, .int .i64 a, .int .i64 p, .int .i64 f]) (T := 25) (Lv.start w)) hb); clear hb c1
  have hL := HL.out.facts
  simp only [liveAt, cellsAt, and_true, Nat.zero_add, Nat.reduceAdd, World.size_alloc] at hL
  go_wp2_with fail
  all_goals first
    | (exfalso; apply HX.out; simp_all; done)
    | (exfalso; apply HX.out; refine ⟨by simp_all, by omega, by omega⟩)
    | (obtain rfl : E = 1 := by have := HC.out; simp_all; try omega
       go_returns
       exact ⟨rfl, HL.out.below⟩)
    | (obtain rfl : E = 2 := by have := HC.out; simp_all; try omega
       go_returns
       exact ⟨rfl, HL.out.below⟩)
    | trace_state
end Go.Proofs.Ytmgkbgnjpgkdiaa
