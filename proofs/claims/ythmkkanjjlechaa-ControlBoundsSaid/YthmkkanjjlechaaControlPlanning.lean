/- What Plan gives where the declaration holds and the drift is small: under way. -/
import Derived.Test.YthmkkanjjlechaaControlDemand
import Derived.Outline
namespace Go.Proofs.Ythmkkanjjlechaa
open Go.ChangeShapes Go.WideShapes Go.ChangeAt Go.RowKit
set_option linter.unusedVariables false
set_option linter.unusedSimpArgs false
def mostV (k : Int) : Int := ceilV (65536 * k) (65536 - k)
theorem most_small {k : Int} (h1 : 0 ≤ k) (h2 : k ≤ 512) : 0 ≤ mostV k ∧ mostV k ≤ 517 ∧ 65536 * k ≤ mostV k * (65536 - k) := by
  unfold mostV ceilV
  have hb : 0 < 65536 - k := by omega
  refine ⟨Int.ediv_nonneg (by omega) (by omega), ?_, ?_⟩
  · have : (65536 * k + (65536 - k) - 1) / (65536 - k) < 518 := Int.ediv_lt_of_lt_mul hb (by omega)
    omega
  · have := Int.lt_ediv_add_one_mul_self (65536 * k + (65536 - k) - 1) hb
    rw [Int.add_mul] at this
    omega
theorem within_any (n a b : Int) (w : World) : Calls Try.prog 39 #[.int .i64 n, .int .i64 a, .int .i64 b] w fun e w' => e = .returned (.bool (decide (a ≤ n ∧ n ≤ b))) ∧ w = w' := by
  go_enter Try.func39, Try.ntmps39
  go_wp2
  all_goals (go_ret; exact ⟨ret_b (by rw [Bool.eq_iff_iff]; simp; try omega), rfl⟩)
theorem bnd_bd {n d k j m s : Int} (hp : posV n d = true) (k1 : 0 ≤ k) (k2 : k ≤ 512) (m1 : 0 ≤ m) (m2 : m ≤ 517) (j1 : 0 ≤ j) (j2 : j ≤ 65536) (s1 : 0 ≤ s) (s2 : s ≤ 200000) : 0 ≤ (bndV 0 4 9 m n d k j s).1 ∧ (bndV 0 4 9 m n d k j s).1 ≤ 1000000 := by
  have ht := twi_bd hp (show 0 ≤ k + m by omega) (by omega)
  have hc := ceil_bd (a := m) (b := 9) m1 (by omega)
  unfold bndV
  have hc' : 0 ≤ ceilV m 9 ∧ ceilV m 9 ≤ m := hc
  split
  · show 0 ≤ max s (4 + ceilV m 9) + twiV n d (k + m) + 2 * j + 2 ∧ max s (4 + ceilV m 9) + twiV n d (k + m) + 2 * j + 2 ≤ 1000000
    omega
  · exact ⟨by show (0 : Int) ≤ 0; omega, by show (0 : Int) ≤ 1000000; omega⟩
theorem dem_bd {n d k j m : Int} (hp : posV n d = true) (k1 : 0 ≤ k) (k2 : k ≤ 512) (m1 : 0 ≤ m) (m2 : m ≤ 517) (j1 : 0 ≤ j) (j2 : j ≤ 65536) : 0 ≤ (demV 0 4 9 m n d k j).1 ∧ (demV 0 4 9 m n d k j).1 ≤ 1000000 := by
  have ht := twi_bd hp (show 0 ≤ k + m by omega) (by omega)
  have hc := ceilR_bd hp
  unfold demV
  split
  · show 0 ≤ ceilV n d + twiV n d (k + m) + 2 * j + 3 ∧ ceilV n d + twiV n d (k + m) + 2 * j + 3 ≤ 1000000
    omega
  · exact ⟨by show (0 : Int) ≤ 0; omega, by show (0 : Int) ≤ 1000000; omega⟩
set_option maxRecDepth 100000 in
set_option maxHeartbeats 8000000 in
theorem plan_small (n d k j : Int) (h : decV n d k j = true) (hk : k ≤ 512) (w : World) :
    Calls Try.prog 24 #[.agg #[.int .i64 n, .int .i64 d], .int .i64 k, .int .i64 j, .int .i64 4, .int .i64 9] w fun e w' => (if twiV n d k + j + 1 ≤ 65536 ∧ (demV 0 4 9 (mostV k) n d k j).1 + (bndV 0 4 9 (mostV k) n d k j (twiV n d k + j + 1)).1 + (bndV 0 4 9 (mostV k) n d k j (twiV n d k + j + 1)).1 ≤ 65536
      then e = .returned (.tuple #[.agg #[.int .i64 ((demV 0 4 9 (mostV k) n d k j).1 + (bndV 0 4 9 (mostV k) n d k j (twiV n d k + j + 1)).1), .int .i64 4, .int .i64 9, .int .i64 (mostV k)], .int .i64 ((demV 0 4 9 (mostV k) n d k j).1 + (bndV 0 4 9 (mostV k) n d k j (twiV n d k + j + 1)).1 + (bndV 0 4 9 (mostV k) n d k j (twiV n d k + j + 1)).1), .int .i64 0])
      else e = .returned (.tuple #[.agg #[.int .i64 0, .int .i64 0, .int .i64 0, .int .i64 0], .int .i64 0, .int .i64 3])) ∧ Below w.heap.size w w' := by
  obtain ⟨hp, ⟨k1, k2⟩, j1, j2⟩ := decV_true.1 h
  obtain ⟨m1, m2, m3⟩ := most_small k1 hk
  have ht := twi_bd hp k1 (by omega)
  have c1 := hid (fun w => declares_any n d k j w)
  rw [h] at c1
  have c2 := hid (fun w => ceil_any (65536 * k) (65536 - k) (by omega) (by omega) (by omega) (by omega) w)
  have c3 := hid (fun w => twice_any n d k hp k1 (by omega) w)
  have e1 : ceilV (65536 * k) (65536 - k) = mostV k := rfl
  rw [e1] at c2
  have c5 := hid (fun w => bound_any 0 4 9 (mostV k) n d k j (twiV n d k + j + 1) w)
  have c6 := hid (fun w => demand_any 0 4 9 (mostV k) n d k j w)
  have hB := bnd_bd hp k1 hk m1 m2 j1 j2 (s := twiV n d k + j + 1) (by omega) (by omega)
  have hD := dem_bd hp k1 hk m1 m2 j1 j2
  generalize (bndV 0 4 9 (mostV k) n d k j (twiV n d k + j + 1)).1 = BV at *
  generalize (bndV 0 4 9 (mostV k) n d k j (twiV n d k + j + 1)).2 = BE at *
  generalize (demV 0 4 9 (mostV k) n d k j).1 = DV at *
  generalize (demV 0 4 9 (mostV k) n d k j).2 = DE at *
  generalize mostV k = M at *
  generalize twiV n d k = Y at *
  clear h
  have w4 := hid (fun w => within_any 4 0 65536 w)
  have w9 := hid (fun w => within_any 9 1 4096 w)
  rw [show decide ((0 : Int) ≤ 4 ∧ (4 : Int) ≤ 65536) = true from by decide] at w4
  rw [show decide ((1 : Int) ≤ 9 ∧ (9 : Int) ≤ 4096) = true from by decide] at w9
  go_enter Try.func24, Try.ntmps24
  go_wp2_with fail
  (with_reducible refine (c1.out _).mono ?_); rintro e w1 ⟨rfl, hb⟩; have HL := hid (Lv.kept (Lv.alloc (vs := [.int .i64 0, .int .i64 0, .int .i64 0, .int .i64 0]) (T := 23) (Lv.alloc (vs := [.int .i64 n, .int .i64 d]) (T := 27) (Lv.start w))) hb); clear hb
  have hL := HL.out.facts
  simp only [liveAt, cellsAt, and_true, Nat.zero_add, Nat.reduceAdd, World.size_alloc] at hL
  have hz := HL.out.drop.lt
  have hz1 := HL.out.lt
  simp only [World.size_alloc] at hz1
  go_wp2_with (first
    | (go_at_call 39; (with_reducible refine (w4.out _).mono ?_); rintro e w2 ⟨rfl, rfl⟩)
    | (go_at_call 39; (with_reducible refine (w9.out _).mono ?_); rintro e w2 ⟨rfl, rfl⟩)
    | (go_at_call 41; (with_reducible refine (c2.out _).mono ?_); rintro e w2 ⟨rfl, rfl⟩))
  (with_reducible refine (c3.out _).mono ?_); rintro e w2 ⟨rfl, hb⟩; have HL2 := hid ((Lv.alloc (vs := [.int .i64 0, .int .i64 4, .int .i64 9, .int .i64 M]) (T := 23) HL.out).kept hb); clear hb hL
  have hL := HL2.out.facts
  simp only [liveAt, cellsAt, and_true, Nat.zero_add, Nat.reduceAdd, World.size_alloc] at hL
  by_cases hs : Y + j + 1 ≤ 65536
  · go_wp2_with fail
    (with_reducible refine (c5.out _).mono ?_); rintro e w3 ⟨rfl, hb⟩; have HL3 := hid (HL2.out.kept hb); clear hb hL
    have hL := HL3.out.facts
    simp only [liveAt, cellsAt, and_true, Nat.zero_add, Nat.reduceAdd, World.size_alloc] at hL
    go_wp2_with fail
    (with_reducible refine (c6.out _).mono ?_); rintro e w4 ⟨rfl, hb⟩; have HL4 := hid (HL3.out.kept hb); clear hb hL
    have hL := HL4.out.facts
    simp only [liveAt, cellsAt, and_true, Nat.zero_add, Nat.reduceAdd, World.size_alloc] at hL
    have hbl := HL4.out.below
    have hz2 := HL4.out.drop.lt
    have hz3 := HL4.out.lt
    simp only [World.size_alloc] at hz2
    go_wp2_with fail
    all_goals first
      | (exfalso; omega)
      | (refine bodyPost_ret (by simp [results, Try.results24, go_sem, *]; try rfl) rfl ?_; exact ⟨rfl, by go_grown⟩)
      | trace_state
  · have hbl := HL2.out.below
    have hz2 := HL2.out.drop.lt
    simp only [World.size_alloc] at hz2
    go_wp2_with fail
    all_goals first
      | (exfalso; omega)
      | (refine bodyPost_ret (by simp [results, Try.results24, go_sem, *]; try rfl) rfl ?_; exact ⟨rfl, by go_grown⟩)
      | trace_state
end Go.Proofs.Ythmkkanjjlechaa
