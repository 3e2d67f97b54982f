/- Limiters: which are valid, new ones, needed gains. No statement is proved here. -/
import Derived.Test.YtbcifmddbhnkhaaLive
import Derived.Handy
import Derived.IntWalk
namespace Go.Proofs.Ytbcifmddbhnkhaa
open Go.ChangeShapes Go.WideShapes Go.ChangeAt Go.RowKit
set_option linter.unusedVariables false
set_option linter.unusedSimpArgs false

theorem ret_lb {a b : Bool} (h : a = b) : Ending.returned (.bool a) = .returned (.bool b) := by rw [h]
def thrB (n : Int) : Bool := decide (1 ≤ n ∧ n ≤ 8388607)
def relB (n : Int) : Bool := decide (1 ≤ n ∧ n ≤ 65536)
theorem thrB_iff {n : Int} : thrB n = true ↔ 1 ≤ n ∧ n ≤ 8388607 := by unfold thrB; simp
theorem relB_iff {n : Int} : relB n = true ↔ 1 ≤ n ∧ n ≤ 65536 := by unfold relB; simp
theorem isThreshold_any (n : Int) (w : World) : Calls Try.prog 30 #[.int .i64 n] w fun e w' => e = .returned (.bool (thrB n)) ∧ w = w' := by
  go_enter Try.func30, Try.ntmps30
  go_wp2
  all_goals (go_ret; exact ⟨ret_lb (by unfold thrB; rw [Bool.eq_iff_iff]; simp; try omega), rfl⟩)
theorem isRelease_any (n : Int) (w : World) : Calls Try.prog 31 #[.int .i64 n] w fun e w' => e = .returned (.bool (relB n)) ∧ w = w' := by
  go_enter Try.func31, Try.ntmps31
  go_wp2
  all_goals (go_ret; exact ⟨ret_lb (by unfold relB; rw [Bool.eq_iff_iff]; simp; try omega), rfl⟩)
/-- the greatest gain with which a peak does not exceed the threshold -/
def needL (t p : Int) : Int := if thrB t = true ∧ 0 ≤ p ∧ p ≤ 1099511627776 then (if p ≤ t then 65536 else t * 65536 / p) else 0
theorem needL_in {t p : Int} (ht : 1 ≤ t ∧ t ≤ 8388607) (h0 : 0 ≤ p) (h1 : p ≤ 1099511627776) : needL t p = if p ≤ t then 65536 else t * 65536 / p := by
  unfold needL; rw [if_pos ⟨thrB_iff.2 ht, h0, h1⟩]
theorem needL_bd {t p : Int} (ht : 1 ≤ t ∧ t ≤ 8388607) (h0 : 0 ≤ p) (h1 : p ≤ 1099511627776) : 0 ≤ needL t p ∧ needL t p ≤ 65536 ∧ needL t p * p ≤ t * 65536 := by
  rw [needL_in ht h0 h1]
  split
  · rename_i h; exact ⟨by omega, by omega, by omega⟩
  · rename_i h
    have e1 := Int.ediv_nonneg (show 0 ≤ t * 65536 by omega) h0
    have e2 := Int.ediv_mul_le (t * 65536) (show p ≠ 0 by omega)
    refine ⟨e1, ?_, e2⟩
    generalize t * 65536 / p = X at *
    by_cases hX : X ≤ 65536
    · exact hX
    · exfalso
      have e3 := Int.mul_le_mul_of_nonneg_right (show 65537 ≤ X by omega) h0
      omega
set_option maxHeartbeats 4000000 in
theorem needed_any (t p : Int) (w : World) : Calls Try.prog 19 #[.int .i64 t, .int .i64 p] w fun e w' => e = .returned (.int .i64 (needL t p)) ∧ w = w' := by
  have c := hid (fun w => isThreshold_any t w)
  by_cases ht : thrB t = true
  · rw [ht] at c
    have ht2 := thrB_iff.1 ht
    by_cases hp : 0 ≤ p ∧ p ≤ 1099511627776
    · obtain ⟨p0, p1⟩ := hp
      rw [needL_in ht2 p0 p1]
      obtain ⟨t0, t1⟩ := ht2
      by_cases hpt : p ≤ t
      · rw [if_pos hpt]
        go_enter Try.func19, Try.ntmps19
        go_wp2_with (go_at_call 30; (with_reducible refine (c.out _).mono ?_); rintro e w1 ⟨rfl, rfl⟩)
        all_goals (go_ret; exact ⟨rfl, rfl⟩)
      · rw [if_neg hpt]
        have g0 : (p == 0) = false := by simp; omega
        have g1 : ¬ p = 0 := by omega
        have q : (t * 65536).tdiv p = t * 65536 / p := Int.tdiv_eq_ediv_of_nonneg (by omega)
        have b1 := Int.ediv_nonneg (show 0 ≤ t * 65536 by omega) p0
        have b2 := Int.ediv_le_self p (show 0 ≤ t * 65536 by omega)
        have u : IntKind.i64.wrap (t * 65536) = t * 65536 := IntWalk.i64_in _ (by omega)
        have u2 : wrap64 (t * 65536 / p) = t * 65536 / p := by unfold wrap64; omega
        generalize t * 65536 / p = X at *
        have hpt2 : t < p := by omega
        go_enter Try.func19, Try.ntmps19
        go_wp2_with (go_at_call 30; (with_reducible refine (c.out _).mono ?_); rintro e w1 ⟨rfl, rfl⟩)
        all_goals (go_ret; exact ⟨ret_int (by first | rfl | (simp_all; done) | omega), rfl⟩)
    · have e : needL t p = 0 := by unfold needL; rw [if_neg (fun h => hp h.2)]
      rw [e]
      have HP := hid hp
      have hq : p < 0 ∨ 1099511627776 < p := by omega
      clear hp e
      rcases hq with hq | hq
      · go_enter Try.func19, Try.ntmps19
        go_wp2_with (go_at_call 30; (with_reducible refine (c.out _).mono ?_); rintro e w1 ⟨rfl, rfl⟩)
        all_goals (go_ret; exact ⟨rfl, rfl⟩)
      · have hq0 : 0 ≤ p := by omega
        go_enter Try.func19, Try.ntmps19
        go_wp2_with (go_at_call 30; (with_reducible refine (c.out _).mono ?_); rintro e w1 ⟨rfl, rfl⟩)
        all_goals (go_ret; exact ⟨rfl, rfl⟩)
  · rw [Bool.eq_false_iff.2 ht] at c
    have e : needL t p = 0 := by unfold needL; rw [if_neg (fun h => ht h.1)]
    rw [e]
    clear ht e
    go_enter Try.func19, Try.ntmps19
    go_wp2_with (go_at_call 30; (with_reducible refine (c.out _).mono ?_); rintro e w1 ⟨rfl, rfl⟩)
    all_goals (go_ret; exact ⟨rfl, rfl⟩)
/-- the states of a limiter -/
def limB (t r g : Int) : Bool := decide ((1 ≤ t ∧ t ≤ 8388607) ∧ (1 ≤ r ∧ r ≤ 65536) ∧ 0 ≤ g ∧ g ≤ 65536)
theorem limB_iff {t r g : Int} : limB t r g = true ↔ (1 ≤ t ∧ t ≤ 8388607) ∧ (1 ≤ r ∧ r ≤ 65536) ∧ 0 ≤ g ∧ g ≤ 65536 := by unfold limB; simp
set_option maxHeartbeats 4000000 in
theorem lvalid_any (t r g : Int) (w : World) : Calls Try.prog 17 #[.agg #[.int .i64 t, .int .i64 r, .int .i64 g]] w fun e w' => e = .returned (.bool (limB t r g)) ∧ Below w.heap.size w w' := by
  have e : limB t r g = (thrB t && (relB r && decide (0 ≤ g ∧ g ≤ 65536))) := by unfold limB thrB relB; rw [Bool.eq_iff_iff]; simp
  rw [e]
  have c1 := hid (fun w => isThreshold_any t w)
  have c2 := hid (fun w => isRelease_any r w)
  generalize thrB t = T at *
  generalize relB r = R at *
  clear e
  go_enter Try.func17, Try.ntmps17
  go_wp2_with (first | (go_at_call 30; (with_reducible refine (c1.out _).mono ?_); rintro e w1 ⟨rfl, rfl⟩) | (go_at_call 31; (with_reducible refine (c2.out _).mono ?_); rintro e w1 ⟨rfl, rfl⟩))
  all_goals (go_ret; exact ⟨ret_lb (by simp_all <;> omega), by go_grown⟩)
end Go.Proofs.Ytbcifmddbhnkhaa
