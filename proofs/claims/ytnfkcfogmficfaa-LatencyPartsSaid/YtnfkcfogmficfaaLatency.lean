/- Frames of clocks, and LatencyFrames: the walk. -/
import Derived.Test.YtnfkcfogmficfaaMod
import Derived.Deep.RegionHeld3
import Derived.Deep.DrawnRows
namespace Go.Proofs.Ytnfkcfogmficfaa
open Go.ChangeShapes Go.WideShapes Go.ChangeAt Go.RowKit
set_option linter.unusedVariables false
attribute [local go_sem ↓] Go.wp_at_zero Go.wp_at_succ

def framesOf (n a b : Int) : Int := if (0 ≤ n ∧ n ≤ 1099511627776) ∧ (1000 ≤ a ∧ a ≤ 768000) ∧ (1000 ≤ b ∧ b ≤ 768000) then (n * b + a - 1) / a else 0
set_option maxHeartbeats 1000000 in
theorem frames_any (n a b : Int) (w : World) :
    Calls Try.prog 16 #[.int .i64 n, .int .i64 a, .int .i64 b] w fun e w' => e = .returned (.int .i64 (framesOf n a b)) ∧ w = w' := by
  by_cases h1 : (0 ≤ n ∧ n ≤ 1099511627776) ∧ (1000 ≤ a ∧ a ≤ 768000) ∧ (1000 ≤ b ∧ b ≤ 768000)
  · have e : framesOf n a b = (n * b + a - 1) / a := by unfold framesOf; rw [if_pos h1]
    rw [e]
    obtain ⟨⟨b1, b2⟩, ⟨b3, b4⟩, b5, b6⟩ := h1
    have p1 : 0 ≤ n * b := Int.mul_nonneg (by omega) (by omega)
    have p2 : n * b ≤ 1099511627776 * 768000 := by
      have := Int.mul_le_mul_of_nonneg_right b2 (show 0 ≤ b by omega)
      omega
    obtain ⟨P, hP⟩ : ∃ P, n * b = P := ⟨_, rfl⟩
    rw [hP] at p1 p2 ⊢
    go_enter Try.func16, Try.ntmps16
    go_wp2
    go_ret
    exact ⟨rfl, rfl⟩
  · have e : framesOf n a b = 0 := by unfold framesOf; rw [if_neg h1]
    rw [e]
    go_enter Try.func16, Try.ntmps16
    go_wp2
    all_goals first
      | (go_ret; exact ⟨rfl, rfl⟩)
      | (exfalso; simp_all; done)
      | (exfalso; simp_all; omega)
set_option maxHeartbeats 1000000 in
theorem rframes_any (n a b : Int) (w : World) :
    Calls Try.prog 17 #[.int .i64 n, .int .i64 a, .int .i64 b] w fun e w' => e = .returned (.int .i64 (framesOf n a b)) ∧ w = w' := by
  by_cases h1 : (0 ≤ n ∧ n ≤ 1099511627776) ∧ (1000 ≤ a ∧ a ≤ 768000) ∧ (1000 ≤ b ∧ b ≤ 768000)
  · have e : framesOf n a b = (n * b + a - 1) / a := by unfold framesOf; rw [if_pos h1]
    rw [e]
    obtain ⟨⟨b1, b2⟩, ⟨b3, b4⟩, b5, b6⟩ := h1
    have p1 : 0 ≤ n * b := Int.mul_nonneg (by omega) (by omega)
    have p2 : n * b ≤ 1099511627776 * 768000 := by
      have := Int.mul_le_mul_of_nonneg_right b2 (show 0 ≤ b by omega)
      omega
    obtain ⟨P, hP⟩ : ∃ P, n * b = P := ⟨_, rfl⟩
    rw [hP] at p1 p2 ⊢
    go_enter Try.func17, Try.ntmps17
    go_wp2
    go_ret
    exact ⟨rfl, rfl⟩
  · have e : framesOf n a b = 0 := by unfold framesOf; rw [if_neg h1]
    rw [e]
    go_enter Try.func17, Try.ntmps17
    go_wp2
    all_goals first
      | (go_ret; exact ⟨rfl, rfl⟩)
      | (exfalso; simp_all; done)
      | (exfalso; simp_all; omega)

def inJ (m r d ring per tgt lat : Int) : Bool := decide ((1000 ≤ m ∧ m ≤ 768000) ∧ (1000 ≤ r ∧ r ≤ 768000) ∧ (1000 ≤ d ∧ d ≤ 768000) ∧ (16 ≤ per ∧ per ≤ 8192) ∧ (0 ≤ ring ∧ ring ≤ 1099511627776) ∧ (0 ≤ tgt ∧ tgt ≤ 1099511627776) ∧ (0 ≤ lat ∧ lat ≤ 1099511627776))
def ofV (m r d ring per tgt lat : Int) : (Int × Int × Int × Int × Int) × Int := if inJ m r d ring per tgt lat = true then ((framesOf ring r m, framesOf 2 r m, per, tgt, framesOf lat d m), 0) else ((0, 0, 0, 0, 0), 2)
set_option maxHeartbeats 4000000 in
theorem of_any (m r d ring per tgt lat : Int) (w : World) :
    Calls Try.prog 18 #[.agg #[.int .i64 m, .int .i64 r, .int .i64 d, .int .i64 ring, .int .i64 per, .int .i64 tgt, .int .i64 lat]] w fun e w' => e = .returned (.tuple #[.agg #[.int .i64 (ofV m r d ring per tgt lat).1.1, .int .i64 (ofV m r d ring per tgt lat).1.2.1, .int .i64 (ofV m r d ring per tgt lat).1.2.2.1, .int .i64 (ofV m r d ring per tgt lat).1.2.2.2.1, .int .i64 (ofV m r d ring per tgt lat).1.2.2.2.2], .int .i64 (ofV m r d ring per tgt lat).2]) ∧ Below w.heap.size w w' := by
  cases hv : inJ m r d ring per tgt lat
  · have e : ofV m r d ring per tgt lat = ((0, 0, 0, 0, 0), 2) := by unfold ofV; rw [hv]; rfl
    rw [e]
    go_enter Try.func18, Try.ntmps18
    go_wp2
    all_goals first
      | (go_returns; exact ⟨rfl, by go_grown⟩)
      | (exfalso; simp_all [inJ]; done)
      | (exfalso; simp_all [inJ]; omega)
      | trace_state
  · have e : ofV m r d ring per tgt lat = ((framesOf ring r m, framesOf 2 r m, per, tgt, framesOf lat d m), 0) := by unfold ofV; rw [hv]; rfl
    rw [e]
    unfold inJ at hv
    rw [decide_eq_true_iff] at hv
    obtain ⟨⟨b1, b2⟩, ⟨b3, b4⟩, ⟨b5, b6⟩, ⟨b7, b8⟩, ⟨b9, b10⟩, ⟨b11, b12⟩, b13, b14⟩ := hv
    go_enter Try.func18, Try.ntmps18
    go_wp2
    go_region_held3 (fun w' => w'.cell? ⟨w.heap.size, 0, none⟩ = some (.int .i64 m) ∧ w'.cell? ⟨w.heap.size, 1, none⟩ = some (.int .i64 r) ∧ w'.cell? ⟨w.heap.size, 2, none⟩ = some (.int .i64 d) ∧ w'.cell? ⟨w.heap.size, 3, none⟩ = some (.int .i64 ring) ∧ w'.cell? ⟨w.heap.size, 4, none⟩ = some (.int .i64 per) ∧ w'.cell? ⟨w.heap.size, 5, none⟩ = some (.int .i64 tgt) ∧ w'.cell? ⟨w.heap.size, 6, none⟩ = some (.int .i64 lat)) (go_keep) (first | (go_at_call 16; refine (frames_any _ _ _ _).mono ?_; rintro e w' ⟨rfl, rfl⟩))
    all_goals (rename_i hh; clear hh; go_wp2; go_returns; exact ⟨rfl, by go_grown⟩)
set_option maxHeartbeats 4000000 in
theorem rof_any (m r d ring per tgt lat : Int) (w : World) :
    Calls Try.prog 19 #[.agg #[.int .i64 m, .int .i64 r, .int .i64 d, .int .i64 ring, .int .i64 per, .int .i64 tgt, .int .i64 lat]] w fun e w' => e = .returned (.tuple #[.agg #[.int .i64 (ofV m r d ring per tgt lat).1.1, .int .i64 (ofV m r d ring per tgt lat).1.2.1, .int .i64 (ofV m r d ring per tgt lat).1.2.2.1, .int .i64 (ofV m r d ring per tgt lat).1.2.2.2.1, .int .i64 (ofV m r d ring per tgt lat).1.2.2.2.2], .int .i64 (ofV m r d ring per tgt lat).2]) ∧ Below w.heap.size w w' := by
  cases hv : inJ m r d ring per tgt lat
  · have e : ofV m r d ring per tgt lat = ((0, 0, 0, 0, 0), 2) := by unfold ofV; rw [hv]; rfl
    rw [e]
    go_enter Try.func19, Try.ntmps19
    go_wp2
    all_goals first
      | (go_returns; exact ⟨rfl, by go_grown⟩)
      | (exfalso; simp_all [inJ]; done)
      | (exfalso; simp_all [inJ]; omega)
      | trace_state
  · have e : ofV m r d ring per tgt lat = ((framesOf ring r m, framesOf 2 r m, per, tgt, framesOf lat d m), 0) := by unfold ofV; rw [hv]; rfl
    rw [e]
    unfold inJ at hv
    rw [decide_eq_true_iff] at hv
    obtain ⟨⟨b1, b2⟩, ⟨b3, b4⟩, ⟨b5, b6⟩, ⟨b7, b8⟩, ⟨b9, b10⟩, ⟨b11, b12⟩, b13, b14⟩ := hv
    go_enter Try.func19, Try.ntmps19
    go_wp2
    go_region_held3 (fun w' => w'.cell? ⟨w.heap.size, 0, none⟩ = some (.int .i64 m) ∧ w'.cell? ⟨w.heap.size, 1, none⟩ = some (.int .i64 r) ∧ w'.cell? ⟨w.heap.size, 2, none⟩ = some (.int .i64 d) ∧ w'.cell? ⟨w.heap.size, 3, none⟩ = some (.int .i64 ring) ∧ w'.cell? ⟨w.heap.size, 4, none⟩ = some (.int .i64 per) ∧ w'.cell? ⟨w.heap.size, 5, none⟩ = some (.int .i64 tgt) ∧ w'.cell? ⟨w.heap.size, 6, none⟩ = some (.int .i64 lat)) (go_keep) (first | (go_at_call 17; refine (rframes_any _ _ _ _).mono ?_; rintro e w' ⟨rfl, rfl⟩))
    all_goals (rename_i hh; clear hh; go_wp2; go_returns; exact ⟨rfl, by go_grown⟩)
end Go.Proofs.Ytnfkcfogmficfaa
