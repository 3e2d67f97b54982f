/- What a conduct is: no statement is proved here. -/
import Derived.Test.YtnfkcfogmficfaaMod
namespace Go.Proofs.Ytnfkcfogmficfaa
open Go.ChangeShapes Go.WideShapes Go.ChangeAt Go.RowKit
set_option linter.unusedVariables false

def cvalid (p g t s : Int) : Bool := decide (0 ≤ p ∧ p ≤ 4096 ∧ 0 ≤ t ∧ t ≤ g ∧ g ≤ 1099511627776 ∧ 0 ≤ s ∧ s ≤ 1099511627776)
theorem cvalid_true {p g t s : Int} (h : cvalid p g t s = true) : 0 ≤ p ∧ p ≤ 4096 ∧ 0 ≤ t ∧ t ≤ g ∧ g ≤ 1099511627776 ∧ 0 ≤ s ∧ s ≤ 1099511627776 := by unfold cvalid at h; simpa using h
def cstate (p g t s : Int) (d : Bool) : Int := if cvalid p g t s = false then 0 else if d = true then 4 else if p < s then 3 else if 0 < s then 2 else 1
def cwrote (p g t s : Int) (d : Bool) (n : Int) : (Int × Int × Int × Int × Bool) × Int :=
  if cvalid p g t s = false then ((0, 0, 0, 0, false), 1) else if d = true then ((0, 0, 0, 0, false), 9) else if n < 0 then ((0, 0, 0, 0, false), 2) else if 1099511627776 - g < n then ((0, 0, 0, 0, false), 3) else ((p, g + n, t, s, d), 0)
def ctick (p g t s : Int) (d : Bool) (n : Int) : (Int × Int × Int × Int × Bool) × Int × Int :=
  if cvalid p g t s = false then ((0, 0, 0, 0, false), 0, 1) else if n < 0 then ((0, 0, 0, 0, false), 0, 2) else if n ≤ g - t then ((p, g, t + n, 0, d), 0, 0) else ((p, g, g, min (s + 1) 1099511627776, d), n - (g - t), 0)
def cnew (p : Int) : Int × Int := if 0 ≤ p ∧ p ≤ 4096 then (p, 0) else (0, 2)
theorem cnew_valid (p : Int) : cvalid p 0 0 0 = decide (0 ≤ p ∧ p ≤ 4096) := by unfold cvalid; rw [Bool.eq_iff_iff]; simp

theorem cvalid_any (p g t s : Int) (d : Bool) (w : World) :
    Calls Try.prog 47 #[.agg #[.int .i64 p, .int .i64 g, .int .i64 t, .int .i64 s, .bool d]] w fun e w' => e = .returned (.bool (cvalid p g t s)) ∧ w' = w.alloc (.cells #[.int .i64 p, .int .i64 g, .int .i64 t, .int .i64 s, .bool d] 82) := by
  go_enter Try.func47, Try.ntmps47
  go_wp2
  all_goals go_ret
  all_goals refine ⟨ret_b ?_, rfl⟩
  all_goals (rw [Bool.eq_iff_iff]; simp [cvalid]; try omega)
theorem cstate_any (p g t s : Int) (d : Bool) (w : World) :
    Calls Try.prog 49 #[.agg #[.int .i64 p, .int .i64 g, .int .i64 t, .int .i64 s, .bool d]] w fun e w' => e = .returned (.int .i64 (cstate p g t s d)) ∧ Below w.heap.size w w' := by
  cases hv : cvalid p g t s
  all_goals
    go_enter Try.func49, Try.ntmps49
    go_wp2_with (go_at_call 47; (with_reducible refine (cvalid_any _ _ _ _ _ _).mono ?_); try rw [hv]; rintro e w1 ⟨rfl, rfl⟩)
    all_goals go_ret
    all_goals refine ⟨ret_int ?_, by go_grown⟩
    all_goals (unfold cstate; rw [hv]; (repeat' split) <;> (first | rfl | (exfalso; simp_all; done) | (exfalso; simp_all; omega) | (simp_all; done) | (simp_all; omega)))
theorem cdie_any (p g t s : Int) (d : Bool) (w : World) :
    Calls Try.prog 51 #[.agg #[.int .i64 p, .int .i64 g, .int .i64 t, .int .i64 s, .bool d]] w fun e w' => e = .returned (.agg #[.int .i64 p, .int .i64 g, .int .i64 t, .int .i64 s, .bool true]) ∧ Below w.heap.size w w' := by
  go_enter Try.func51, Try.ntmps51
  go_wp2
  go_returns
  exact ⟨rfl, by go_grown⟩
theorem cwrote_any (p g t s n : Int) (d : Bool) (w : World) (h0 : -9223372036854775808 ≤ n) (h1 : n ≤ 9223372036854775807) :
    Calls Try.prog 53 #[.agg #[.int .i64 p, .int .i64 g, .int .i64 t, .int .i64 s, .bool d], .int .i64 n] w fun e w' => e = .returned (.tuple #[.agg #[.int .i64 (cwrote p g t s d n).1.1, .int .i64 (cwrote p g t s d n).1.2.1, .int .i64 (cwrote p g t s d n).1.2.2.1, .int .i64 (cwrote p g t s d n).1.2.2.2.1, .bool (cwrote p g t s d n).1.2.2.2.2], .int .i64 (cwrote p g t s d n).2]) ∧ Below w.heap.size w w' := by
  cases hv : cvalid p g t s
  · go_enter Try.func53, Try.ntmps53
    go_wp2_with (go_at_call 47; (with_reducible refine (cvalid_any _ _ _ _ _ _).mono ?_); try rw [hv]; rintro e w1 ⟨rfl, rfl⟩)
    go_returns
    refine ⟨?_, by go_grown⟩
    unfold cwrote; rw [hv]; rfl
  · obtain ⟨b1, b2, b3, b4, b5, b6, b7⟩ := cvalid_true hv
    go_enter Try.func53, Try.ntmps53
    go_wp2_with (go_at_call 47; (with_reducible refine (cvalid_any _ _ _ _ _ _).mono ?_); try rw [hv]; rintro e w1 ⟨rfl, rfl⟩)
    all_goals go_returns
    all_goals refine ⟨?_, by go_grown⟩
    all_goals (unfold cwrote; rw [hv]; (repeat' split) <;> (first | rfl | (exfalso; simp_all; done) | (exfalso; simp_all; omega) | (simp_all; done) | (simp_all; omega)))
theorem ctick_any (p g t s n : Int) (d : Bool) (w : World) (h0 : -9223372036854775808 ≤ n) (h1 : n ≤ 9223372036854775807) :
    Calls Try.prog 55 #[.agg #[.int .i64 p, .int .i64 g, .int .i64 t, .int .i64 s, .bool d], .int .i64 n] w fun e w' => e = .returned (.tuple #[.agg #[.int .i64 (ctick p g t s d n).1.1, .int .i64 (ctick p g t s d n).1.2.1, .int .i64 (ctick p g t s d n).1.2.2.1, .int .i64 (ctick p g t s d n).1.2.2.2.1, .bool (ctick p g t s d n).1.2.2.2.2], .int .i64 (ctick p g t s d n).2.1, .int .i64 (ctick p g t s d n).2.2]) ∧ Below w.heap.size w w' := by
  cases hv : cvalid p g t s
  · go_enter Try.func55, Try.ntmps55
    go_wp2_with (go_at_call 47; (with_reducible refine (cvalid_any _ _ _ _ _ _).mono ?_); try rw [hv]; rintro e w1 ⟨rfl, rfl⟩)
    go_returns
    refine ⟨?_, by go_grown⟩
    unfold ctick; rw [hv]; rfl
  · obtain ⟨b1, b2, b3, b4, b5, b6, b7⟩ := cvalid_true hv
    go_enter Try.func55, Try.ntmps55
    go_wp2_with (go_at_call 47; (with_reducible refine (cvalid_any _ _ _ _ _ _).mono ?_); try rw [hv]; rintro e w1 ⟨rfl, rfl⟩)
    all_goals go_returns
    all_goals refine ⟨?_, by go_grown⟩
    all_goals (unfold ctick; rw [hv]; (repeat' split) <;> (first | rfl | (exfalso; simp_all; done) | (exfalso; simp_all; omega) | (simp_all; done) | (simp_all; omega)))
theorem cnew_any (p : Int) (w : World) :
    Calls Try.prog 57 #[.int .i64 p] w fun e w' => e = .returned (.tuple #[.agg #[.int .i64 (cnew p).1, .int .i64 0, .int .i64 0, .int .i64 0, .bool false], .int .i64 (cnew p).2]) ∧ Below w.heap.size w w' := by
  go_enter Try.func57, Try.ntmps57
  go_wp2_with (go_at_call 47; (with_reducible refine (cvalid_any _ _ _ _ _ _).mono ?_); rintro e w1 ⟨rfl, rfl⟩)
  all_goals go_returns
  all_goals refine ⟨?_, by go_grown⟩
  all_goals (try rw [cnew_valid] at *)
  all_goals (unfold cnew; (repeat' split) <;> (first | rfl | (exfalso; simp_all; done) | (exfalso; simp_all; omega) | (simp_all; done) | (simp_all; omega)))
theorem cwhole_any (b f : Int) (w : World) (h0 : -9223372036854775808 ≤ b) (h1 : b ≤ 9223372036854775807) :
    Calls Try.prog 59 #[.int .i64 b, .int .i64 f] w fun e w' => e = .returned (.int .i64 (if 0 ≤ b ∧ 1 ≤ f then b / f else 0)) ∧ w = w' := by
  go_enter Try.func59, Try.ntmps59
  go_wp2
  all_goals go_ret
  all_goals refine ⟨ret_int ?_, rfl⟩
  all_goals ((repeat' split) <;> (first | rfl | (exfalso; simp_all; done) | (exfalso; simp_all; omega) | (simp_all; done) | (simp_all; omega)))

theorem rvalid_any (p g t s : Int) (d : Bool) (w : World) :
    Calls Try.prog 48 #[.agg #[.int .i64 p, .int .i64 g, .int .i64 t, .int .i64 s, .bool d]] w fun e w' => e = .returned (.bool (cvalid p g t s)) ∧ w' = w.alloc (.cells #[.int .i64 p, .int .i64 g, .int .i64 t, .int .i64 s, .bool d] 82) := by
  go_enter Try.func48, Try.ntmps48
  go_wp2
  all_goals go_ret
  all_goals refine ⟨ret_b ?_, rfl⟩
  all_goals (rw [Bool.eq_iff_iff]; simp [cvalid]; try omega)
theorem rstate_any (p g t s : Int) (d : Bool) (w : World) :
    Calls Try.prog 50 #[.agg #[.int .i64 p, .int .i64 g, .int .i64 t, .int .i64 s, .bool d]] w fun e w' => e = .returned (.int .i64 (cstate p g t s d)) ∧ Below w.heap.size w w' := by
  cases hv : cvalid p g t s
  all_goals
    go_enter Try.func50, Try.ntmps50
    go_wp2_with (go_at_call 48; (with_reducible refine (rvalid_any _ _ _ _ _ _).mono ?_); try rw [hv]; rintro e w1 ⟨rfl, rfl⟩)
    all_goals go_ret
    all_goals refine ⟨ret_int ?_, by go_grown⟩
    all_goals (unfold cstate; rw [hv]; (repeat' split) <;> (first | rfl | (exfalso; simp_all; done) | (exfalso; simp_all; omega) | (simp_all; done) | (simp_all; omega)))
theorem rdie_any (p g t s : Int) (d : Bool) (w : World) :
    Calls Try.prog 52 #[.agg #[.int .i64 p, .int .i64 g, .int .i64 t, .int .i64 s, .bool d]] w fun e w' => e = .returned (.agg #[.int .i64 p, .int .i64 g, .int .i64 t, .int .i64 s, .bool true]) ∧ Below w.heap.size w w' := by
  go_enter Try.func52, Try.ntmps52
  go_wp2
  go_returns
  exact ⟨rfl, by go_grown⟩
theorem rwrote_any (p g t s n : Int) (d : Bool) (w : World) (h0 : -9223372036854775808 ≤ n) (h1 : n ≤ 9223372036854775807) :
    Calls Try.prog 54 #[.agg #[.int .i64 p, .int .i64 g, .int .i64 t, .int .i64 s, .bool d], .int .i64 n] w fun e w' => e = .returned (.tuple #[.agg #[.int .i64 (cwrote p g t s d n).1.1, .int .i64 (cwrote p g t s d n).1.2.1, .int .i64 (cwrote p g t s d n).1.2.2.1, .int .i64 (cwrote p g t s d n).1.2.2.2.1, .bool (cwrote p g t s d n).1.2.2.2.2], .int .i64 (cwrote p g t s d n).2]) ∧ Below w.heap.size w w' := by
  cases hv : cvalid p g t s
  · go_enter Try.func54, Try.ntmps54
    go_wp2_with (go_at_call 48; (with_reducible refine (rvalid_any _ _ _ _ _ _).mono ?_); try rw [hv]; rintro e w1 ⟨rfl, rfl⟩)
    go_returns
    refine ⟨?_, by go_grown⟩
    unfold cwrote; rw [hv]; rfl
  · obtain ⟨b1, b2, b3, b4, b5, b6, b7⟩ := cvalid_true hv
    go_enter Try.func54, Try.ntmps54
    go_wp2_with (go_at_call 48; (with_reducible refine (rvalid_any _ _ _ _ _ _).mono ?_); try rw [hv]; rintro e w1 ⟨rfl, rfl⟩)
    all_goals go_returns
    all_goals refine ⟨?_, by go_grown⟩
    all_goals (unfold cwrote; rw [hv]; (repeat' split) <;> (first | rfl | (exfalso; simp_all; done) | (exfalso; simp_all; omega) | (simp_all; done) | (simp_all; omega)))
theorem rtick_any (p g t s n : Int) (d : Bool) (w : World) (h0 : -9223372036854775808 ≤ n) (h1 : n ≤ 9223372036854775807) :
    Calls Try.prog 56 #[.agg #[.int .i64 p, .int .i64 g, .int .i64 t, .int .i64 s, .bool d], .int .i64 n] w fun e w' => e = .returned (.tuple #[.agg #[.int .i64 (ctick p g t s d n).1.1, .int .i64 (ctick p g t s d n).1.2.1, .int .i64 (ctick p g t s d n).1.2.2.1, .int .i64 (ctick p g t s d n).1.2.2.2.1, .bool (ctick p g t s d n).1.2.2.2.2], .int .i64 (ctick p g t s d n).2.1, .int .i64 (ctick p g t s d n).2.2]) ∧ Below w.heap.size w w' := by
  cases hv : cvalid p g t s
  · go_enter Try.func56, Try.ntmps56
    go_wp2_with (go_at_call 48; (with_reducible refine (rvalid_any _ _ _ _ _ _).mono ?_); try rw [hv]; rintro e w1 ⟨rfl, rfl⟩)
    go_returns
    refine ⟨?_, by go_grown⟩
    unfold ctick; rw [hv]; rfl
  · obtain ⟨b1, b2, b3, b4, b5, b6, b7⟩ := cvalid_true hv
    go_enter Try.func56, Try.ntmps56
    go_wp2_with (go_at_call 48; (with_reducible refine (rvalid_any _ _ _ _ _ _).mono ?_); try rw [hv]; rintro e w1 ⟨rfl, rfl⟩)
    all_goals go_returns
    all_goals refine ⟨?_, by go_grown⟩
    all_goals (unfold ctick; rw [hv]; (repeat' split) <;> (first | rfl | (exfalso; simp_all; done) | (exfalso; simp_all; omega) | (simp_all; done) | (simp_all; omega)))
theorem rnew_any (p : Int) (w : World) :
    Calls Try.prog 58 #[.int .i64 p] w fun e w' => e = .returned (.tuple #[.agg #[.int .i64 (cnew p).1, .int .i64 0, .int .i64 0, .int .i64 0, .bool false], .int .i64 (cnew p).2]) ∧ Below w.heap.size w w' := by
  go_enter Try.func58, Try.ntmps58
  go_wp2_with (go_at_call 48; (with_reducible refine (rvalid_any _ _ _ _ _ _).mono ?_); rintro e w1 ⟨rfl, rfl⟩)
  all_goals go_returns
  all_goals refine ⟨?_, by go_grown⟩
  all_goals (try rw [cnew_valid] at *)
  all_goals (unfold cnew; (repeat' split) <;> (first | rfl | (exfalso; simp_all; done) | (exfalso; simp_all; omega) | (simp_all; done) | (simp_all; omega)))
theorem rwhole_any (b f : Int) (w : World) (h0 : -9223372036854775808 ≤ b) (h1 : b ≤ 9223372036854775807) :
    Calls Try.prog 60 #[.int .i64 b, .int .i64 f] w fun e w' => e = .returned (.int .i64 (if 0 ≤ b ∧ 1 ≤ f then b / f else 0)) ∧ w = w' := by
  go_enter Try.func60, Try.ntmps60
  go_wp2
  all_goals go_ret
  all_goals refine ⟨ret_int ?_, rfl⟩
  all_goals ((repeat' split) <;> (first | rfl | (exfalso; simp_all; done) | (exfalso; simp_all; omega) | (simp_all; done) | (simp_all; omega)))
end Go.Proofs.Ytnfkcfogmficfaa
