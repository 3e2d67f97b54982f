/- Periods, bounds, demands of controls: no statement is proved here. -/
import Derived.Test.YthmkkanjjlechaaControl
import Derived.Test.YthmkkanjjlechaaRatio
import Derived.Deep.RegionHeld3
namespace Go.Proofs.Ythmkkanjjlechaa
open Go.ChangeShapes Go.WideShapes Go.ChangeAt Go.RowKit
set_option linter.unusedVariables false
set_option linter.unusedSimpArgs false

def posV (n d : Int) : Bool := decide (ratV n d = true ∧ d ≤ 768000 ∧ d ≤ 64 * n ∧ n ≤ 524288 * d)
def decV (n d k j : Int) : Bool := posV n d && decide ((0 ≤ k ∧ k ≤ 4096) ∧ 0 ≤ j ∧ j ≤ 65536)
def ceilV (a b : Int) : Int := (a + b - 1) / b
def twiV (n d p : Int) : Int := ceilV (2 * n * p) (d * 65536)
def chkV (t c g m n d k j s : Int) : Int := if ctlV t c g m = true ∧ decV n d k j = true ∧ 0 ≤ s ∧ s ≤ 65536 then (if m * (65536 - k) < 65536 * k then 11 else 0) else 1
def bndV (t c g m n d k j s : Int) : Int × Int := if chkV t c g m n d k j s = 0 then (max s (c + ceilV m g) + twiV n d (k + m) + 2 * j + 2, 0) else (0, chkV t c g m n d k j s)
def demV (t c g m n d k j : Int) : Int × Int := if chkV t c g m n d k j 0 = 0 then (ceilV n d + twiV n d (k + m) + 2 * j + 3, 0) else (0, chkV t c g m n d k j 0)
theorem cmp_least (n d : Int) (h : ratV n d = true) : 0 ≤ cmpR n d 1 64 ↔ d ≤ 64 * n := by
  unfold cmpR; rw [if_pos ⟨h, by decide⟩]; (repeat' split) <;> omega
theorem cmp_most (n d : Int) (h : ratV n d = true) : cmpR n d 524288 1 ≤ 0 ↔ n ≤ 524288 * d := by
  unfold cmpR; rw [if_pos ⟨h, by decide⟩]; (repeat' split) <;> omega
theorem possible_any (n d : Int) (w : World) :
    Calls Try.prog 71 #[.agg #[.int .i64 n, .int .i64 d]] w fun e w' => e = .returned (.bool (posV n d)) ∧ Below w.heap.size w w' := by
  have H0 := hid (Lv.alloc (vs := [.int .i64 524288, .int .i64 1]) (T := 27) (Lv.alloc (vs := [.int .i64 1, .int .i64 64]) (T := 27) (Lv.alloc (vs := [.int .i64 n, .int .i64 d]) (T := 27) (Lv.start w))))
  cases hv : ratV n d
  · have e : posV n d = false := by unfold posV; simp [hv]
    rw [e]
    have c1 := hid (fun w => ratv_any n d w)
    rw [hv] at c1
    clear e
    go_enter Try.func71, Try.ntmps71
    go_wp2_with (go_at_call 48; (with_reducible refine (c1.out _).mono ?_); rintro e w1 ⟨rfl, hb⟩; have HL := hid (H0.out.kept hb); clear hb)
    go_ret
    exact ⟨rfl, HL.out.below⟩
  · have e : posV n d = decide (d ≤ 768000 ∧ d ≤ 64 * n ∧ n ≤ 524288 * d) := by unfold posV; simp [hv]
    have k1 := cmp_least n d hv
    have k2 := cmp_most n d hv
    have c1 := hid (fun w => ratv_any n d w)
    rw [hv] at c1
    have c2 := hid (fun w => cmp_any n d 1 64 w)
    have c3 := hid (fun w => cmp_any n d 524288 1 w)
    rw [e]
    clear e hv
    generalize cmpR n d 1 64 = X at *
    generalize cmpR n d 524288 1 = Y at *
    have K1 := hid k1
    have K2 := hid k2
    clear k1 k2
    go_enter Try.func71, Try.ntmps71
    go_wp2_with fail
    (with_reducible refine (c1.out _).mono ?_); rintro e w1 ⟨rfl, hb⟩; have HL := hid (H0.out.kept hb); clear hb
    have hL := HL.out.facts
    simp only [liveAt, cellsAt, and_true, Nat.zero_add, Nat.reduceAdd, World.size_alloc] at hL
    go_wp2_with fail
    (with_reducible refine (c2.out _).mono ?_); rintro e w2 ⟨rfl, hb⟩; have HL2 := hid (HL.out.kept hb); clear hb hL HL
    have hL := HL2.out.facts
    simp only [liveAt, cellsAt, and_true, Nat.zero_add, Nat.reduceAdd, World.size_alloc] at hL
    go_wp2_with (go_at_call 82; (with_reducible refine (c3.out _).mono ?_); rintro e w3 ⟨rfl, hb⟩; have HL3 := hid (HL2.out.kept hb); clear hb hL; have hL := HL3.out.facts; simp only [liveAt, cellsAt, and_true, Nat.zero_add, Nat.reduceAdd, World.size_alloc] at hL)
    all_goals go_ret
    all_goals (refine ⟨ret_b ?_, by first | exact HL3.out.below | exact HL2.out.below⟩)
    all_goals (have k1 := K1.out; have k2 := K2.out; clear hL; rw [Bool.eq_iff_iff])
    all_goals first
      | (simp; omega)
      | (simp_all; omega)
      | trace_state
set_option maxHeartbeats 4000000 in
theorem rpossible_any (n d : Int) (w : World) :
    Calls Try.prog 59 #[.agg #[.int .i64 n, .int .i64 d]] w fun e w' => e = .returned (.bool (posV n d)) ∧ Below w.heap.size w w' := by
  have H0 := hid (Lv.alloc (vs := [.int .i64 n, .int .i64 d]) (T := 27) (Lv.start w))
  cases hv : ratV n d
  · have e : posV n d = false := by unfold posV; simp [hv]
    rw [e]
    have c1 := hid (fun w => rratv_any n d w)
    rw [hv] at c1
    clear e
    go_enter Try.func59, Try.ntmps59
    go_wp2_with (go_at_call 58; (with_reducible refine (c1.out _).mono ?_); rintro e w1 ⟨rfl, hb⟩; have HL := hid (H0.out.kept hb); clear hb)
    go_ret
    exact ⟨rfl, HL.out.below⟩
  · have e : posV n d = decide (d ≤ 768000 ∧ d ≤ 64 * n ∧ n ≤ 524288 * d) := by unfold posV; simp [hv]
    have c1 := hid (fun w => rratv_any n d w)
    rw [hv] at c1
    obtain ⟨⟨n1, n2⟩, ⟨d1, d2⟩, _⟩ := ratV_true.1 hv
    rw [e]
    clear e hv
    go_enter Try.func59, Try.ntmps59
    go_wp2_with fail
    (with_reducible refine (c1.out _).mono ?_); rintro e w1 ⟨rfl, hb⟩; have HL := hid (H0.out.kept hb); clear hb
    have hL := HL.out.facts
    simp only [liveAt, cellsAt, and_true, Nat.zero_add, Nat.reduceAdd, World.size_alloc] at hL
    go_wp2
    all_goals go_ret
    all_goals (refine ⟨ret_b ?_, HL.out.below⟩; clear hL; rw [Bool.eq_iff_iff])
    all_goals first
      | (simp; omega)
      | (simp_all; omega)
theorem ceil_bd {a b : Int} (h : 0 ≤ a) (hb : 1 ≤ b) : 0 ≤ (a + b - 1) / b ∧ (a + b - 1) / b ≤ a := by
  have h1 := Int.ediv_nonneg (show 0 ≤ a + b - 1 by omega) (show 0 ≤ b by omega)
  refine ⟨h1, ?_⟩
  have h2 : (a + b - 1) / b < a + 1 := Int.ediv_lt_of_lt_mul (by omega) (by
    have : (a + 1) * 1 ≤ (a + 1) * b := Int.mul_le_mul_of_nonneg_left hb (by omega)
    have e : (a + 1) * b = a * b + b := by rw [Int.add_mul, Int.one_mul]
    have : a * 1 ≤ a * b := Int.mul_le_mul_of_nonneg_left hb h
    omega)
  omega
theorem posV_bd {n d : Int} (h : posV n d = true) : 1 ≤ n ∧ n ≤ 68719476736 ∧ 1 ≤ d ∧ d ≤ 768000 := by
  unfold posV at h
  simp only [decide_eq_true_eq] at h
  have := ratV_true.1 h.1
  omega
theorem ceil_any (a b : Int) (h1 : 0 ≤ a) (h2 : a ≤ 4611686018427387904) (h3 : 1 ≤ b) (h4 : b ≤ 1152921504606846976) (w : World) :
    Calls Try.prog 41 #[.int .i64 a, .int .i64 b] w fun e w' => e = .returned (.int .i64 (ceilV a b)) ∧ w = w' := by
  have k := ceil_bd h1 h3
  obtain ⟨k1, k2⟩ := k
  have hb : (b == 0) = false := by simp; omega
  go_enter Try.func41, Try.ntmps41
  go_wp2
  go_ret
  exact ⟨ret_int (by unfold ceilV; first | rfl | (simp only [wrap64]; omega)), rfl⟩
theorem up_any (a b : Int) (h1 : 0 ≤ a) (h2 : a ≤ 4611686018427387904) (h3 : 1 ≤ b) (h4 : b ≤ 1152921504606846976) (w : World) :
    Calls Try.prog 44 #[.int .i64 a, .int .i64 b] w fun e w' => e = .returned (.int .i64 (ceilV a b)) ∧ w = w' := by
  have k := ceil_bd h1 h3
  obtain ⟨k1, k2⟩ := k
  have hb : (b == 0) = false := by simp; omega
  go_enter Try.func44, Try.ntmps44
  go_wp2
  go_ret
  exact ⟨ret_int (by unfold ceilV; first | rfl | (simp only [wrap64]; omega)), rfl⟩
theorem twice_any (n d p : Int) (h : posV n d = true) (hp : 0 ≤ p) (hp2 : p ≤ 8192) (w : World) :
    Calls Try.prog 42 #[.agg #[.int .i64 n, .int .i64 d], .int .i64 p] w fun e w' => e = .returned (.int .i64 (twiV n d p)) ∧ Below w.heap.size w w' := by
  obtain ⟨n1, n2, d1, d2⟩ := posV_bd h
  have q1 : 0 ≤ 2 * n * p := Int.mul_nonneg (by omega) hp
  have q2 : 2 * n * p ≤ 1125899906842624 := by
    have := Int.mul_le_mul (show 2 * n ≤ 137438953472 by omega) hp2 hp (by omega)
    omega
  have c1 := hid (fun w => ceil_any (2 * n * p) (d * 65536) q1 (by omega) (by omega) (by omega) w)
  have e : twiV n d p = ceilV (2 * n * p) (d * 65536) := rfl
  rw [e]
  clear e
  generalize ceilV (2 * n * p) (d * 65536) = X at *
  go_enter Try.func42, Try.ntmps42
  go_wp2_with (go_at_call 41; (with_reducible refine (c1.out _).mono ?_); rintro e w1 ⟨rfl, rfl⟩)
  go_ret
  exact ⟨rfl, by go_grown⟩
theorem sway_any (n d p : Int) (h : posV n d = true) (hp : 0 ≤ p) (hp2 : p ≤ 8192) (w : World) :
    Calls Try.prog 45 #[.agg #[.int .i64 n, .int .i64 d], .int .i64 p] w fun e w' => e = .returned (.int .i64 (twiV n d p)) ∧ Below w.heap.size w w' := by
  obtain ⟨n1, n2, d1, d2⟩ := posV_bd h
  have q1 : 0 ≤ 2 * n * p := Int.mul_nonneg (by omega) hp
  have q2 : 2 * n * p ≤ 1125899906842624 := by
    have := Int.mul_le_mul (show 2 * n ≤ 137438953472 by omega) hp2 hp (by omega)
    omega
  have c1 := hid (fun w => up_any (2 * n * p) (d * 65536) q1 (by omega) (by omega) (by omega) w)
  have e : twiV n d p = ceilV (2 * n * p) (d * 65536) := rfl
  rw [e]
  clear e
  generalize ceilV (2 * n * p) (d * 65536) = X at *
  go_enter Try.func45, Try.ntmps45
  go_wp2_with (go_at_call 44; (with_reducible refine (c1.out _).mono ?_); rintro e w1 ⟨rfl, rfl⟩)
  go_ret
  exact ⟨rfl, by go_grown⟩
theorem declares_any (n d k j : Int) (w : World) :
    Calls Try.prog 46 #[.agg #[.int .i64 n, .int .i64 d], .int .i64 k, .int .i64 j] w fun e w' => e = .returned (.bool (decV n d k j)) ∧ Below w.heap.size w w' := by
  have H0 := hid (Lv.alloc (vs := [.int .i64 n, .int .i64 d]) (T := 27) (Lv.start w))
  have c1 := hid (fun w => possible_any n d w)
  unfold decV
  cases hp : posV n d
  all_goals
    rw [hp] at c1
    clear hp
    go_enter Try.func46, Try.ntmps46
    go_wp2_with (go_at_call 71; (with_reducible refine (c1.out _).mono ?_); rintro e w1 ⟨rfl, hb⟩; have HL := hid (H0.out.kept hb); clear hb)
    go_wp2
    all_goals go_ret
    all_goals (refine ⟨ret_b ?_, HL.out.below⟩; rw [Bool.eq_iff_iff])
    all_goals first
      | (simp; done)
      | (simp; omega)
      | trace_state
theorem given_any (n d k j : Int) (w : World) :
    Calls Try.prog 43 #[.agg #[.int .i64 n, .int .i64 d], .int .i64 k, .int .i64 j] w fun e w' => e = .returned (.bool (decV n d k j)) ∧ Below w.heap.size w w' := by
  have H0 := hid (Lv.alloc (vs := [.int .i64 n, .int .i64 d]) (T := 27) (Lv.start w))
  have c1 := hid (fun w => rpossible_any n d w)
  unfold decV
  cases hp : posV n d
  all_goals
    rw [hp] at c1
    clear hp
    go_enter Try.func43, Try.ntmps43
    go_wp2_with (go_at_call 59; (with_reducible refine (c1.out _).mono ?_); rintro e w1 ⟨rfl, hb⟩; have HL := hid (H0.out.kept hb); clear hb)
    go_wp2
    all_goals go_ret
    all_goals (refine ⟨ret_b ?_, HL.out.below⟩; rw [Bool.eq_iff_iff])
    all_goals first
      | (simp; done)
      | (simp; omega)
      | trace_state
end Go.Proofs.Ythmkkanjjlechaa
