/- What controls are: no statement is proved here. -/
import Derived.Test.YthmkkanjjlechaaDice
import Derived.Handy
import Derived.WalkLawsBesides
namespace Go.Proofs.Ythmkkanjjlechaa
open Go.ChangeShapes Go.WideShapes Go.ChangeAt Go.RowKit
set_option linter.unusedVariables false
set_option linter.unusedSimpArgs false

theorem w64 {n : Int} (h1 : -9223372036854775808 ≤ n) (h2 : n ≤ 9223372036854775807) : wrap64 n = n := by unfold wrap64; omega
theorem ret_b {a b : Bool} (h : a = b) : Ending.returned (.bool a) = .returned (.bool b) := by rw [h]
def ctlV (t d g m : Int) : Bool := decide ((0 ≤ t ∧ t ≤ 65536) ∧ (0 ≤ d ∧ d ≤ 65536) ∧ (1 ≤ g ∧ g ≤ 4096) ∧ 0 ≤ m ∧ m ≤ 4096)
theorem ctlV_true {t d g m : Int} : ctlV t d g m = true ↔ (0 ≤ t ∧ t ≤ 65536) ∧ (0 ≤ d ∧ d ≤ 65536) ∧ (1 ≤ g ∧ g ≤ 4096) ∧ 0 ≤ m ∧ m ≤ 4096 := by unfold ctlV; simp
def adjV (t d g m f : Int) : Int := if ctlV t d g m = true ∧ 0 ≤ f ∧ f ≤ 2147483647 then (if d < f - t then min m ((f - t - d) * g) else if f - t < -d then -(min m ((t - f - d) * g)) else 0) else 0
theorem cvalid_any (t d g m : Int) (w : World) :
    Calls Try.prog 18 #[.agg #[.int .i64 t, .int .i64 d, .int .i64 g, .int .i64 m]] w fun e w' => e = .returned (.bool (ctlV t d g m)) ∧ w' = w.alloc (.cells #[.int .i64 t, .int .i64 d, .int .i64 g, .int .i64 m] 23) := by
  go_enter Try.func18, Try.ntmps18
  go_wp2
  all_goals go_ret
  all_goals refine ⟨ret_b ?_, rfl⟩
  all_goals (rw [Bool.eq_iff_iff]; simp [ctlV]; try omega)
theorem rcvalid_any (t d g m : Int) (w : World) :
    Calls Try.prog 19 #[.agg #[.int .i64 t, .int .i64 d, .int .i64 g, .int .i64 m]] w fun e w' => e = .returned (.bool (ctlV t d g m)) ∧ w' = w.alloc (.cells #[.int .i64 t, .int .i64 d, .int .i64 g, .int .i64 m] 23) := by
  go_enter Try.func19, Try.ntmps19
  go_wp2
  all_goals go_ret
  all_goals refine ⟨ret_b ?_, rfl⟩
  all_goals (rw [Bool.eq_iff_iff]; simp [ctlV]; try omega)
theorem span_prod {x g : Int} (h1 : 0 ≤ x) (h2 : x ≤ 2147549183) (h3 : 1 ≤ g) (h4 : g ≤ 4096) : 0 ≤ x * g ∧ x * g ≤ 8796361453568 := by
  have a := Int.mul_nonneg h1 (show 0 ≤ g by omega)
  have b := Int.mul_le_mul h2 h4 (by omega) (by omega)
  omega
set_option maxHeartbeats 4000000 in
theorem adj_any (t d g m f : Int) (w : World) :
    Calls Try.prog 16 #[.agg #[.int .i64 t, .int .i64 d, .int .i64 g, .int .i64 m], .int .i64 f] w fun e w' => e = .returned (.int .i64 (adjV t d g m f)) ∧ Below w.heap.size w w' := by
  by_cases h : ctlV t d g m = true ∧ 0 ≤ f ∧ f ≤ 2147483647
  · obtain ⟨hv, f1, f2⟩ := h
    obtain ⟨⟨t1, t2⟩, ⟨d1, d2⟩, ⟨g1, g2⟩, m1, m2⟩ := ctlV_true.1 hv
    have hp := span_prod (x := f - t - d) (g := g)
    have hq := span_prod (x := t - f - d) (g := g)
    have e : adjV t d g m f = (if d < f - t then min m ((f - t - d) * g) else if f - t < -d then -(min m ((t - f - d) * g)) else 0) := by unfold adjV; rw [if_pos ⟨hv, f1, f2⟩]
    have E := hid e
    have HP := hid hp
    have HQ := hid hq
    clear hv e hp hq
    go_enter Try.func16, Try.ntmps16
    go_wp2
    all_goals (go_returns; refine ⟨ret_int ?_, by go_grown⟩; rw [E.out])
    all_goals (have hp := HP.out; have hq := HQ.out; try rw [show -(f - t) - d = t - f - d by omega] at *)
    all_goals (generalize (f - t - d) * g = P at *; generalize (t - f - d) * g = Q at *; (try simp only [wrap64] at *); omega)
  · have e : adjV t d g m f = 0 := by unfold adjV; rw [if_neg h]
    rw [e]
    have H := hid h
    clear e h
    go_enter Try.func16, Try.ntmps16
    go_wp2
    all_goals first
      | (go_returns; exact ⟨rfl, by go_grown⟩)
      | (exfalso; apply H.out; rw [ctlV_true]; (try simp only [Bool.not_eq_false', Bool.not_eq_true', decide_eq_true_eq, decide_eq_false_iff_not] at *); omega)
set_option maxHeartbeats 4000000 in
theorem radj_any (t d g m f : Int) (w : World) :
    Calls Try.prog 17 #[.agg #[.int .i64 t, .int .i64 d, .int .i64 g, .int .i64 m], .int .i64 f] w fun e w' => e = .returned (.int .i64 (adjV t d g m f)) ∧ Below w.heap.size w w' := by
  by_cases h : ctlV t d g m = true ∧ 0 ≤ f ∧ f ≤ 2147483647
  · obtain ⟨hv, f1, f2⟩ := h
    obtain ⟨⟨t1, t2⟩, ⟨d1, d2⟩, ⟨g1, g2⟩, m1, m2⟩ := ctlV_true.1 hv
    have hp := span_prod (x := f - t - d) (g := g)
    have hq := span_prod (x := t - f - d) (g := g)
    have e : adjV t d g m f = (if d < f - t then min m ((f - t - d) * g) else if f - t < -d then -(min m ((t - f - d) * g)) else 0) := by unfold adjV; rw [if_pos ⟨hv, f1, f2⟩]
    have E := hid e
    have HP := hid hp
    have HQ := hid hq
    clear hv e hp hq
    go_enter Try.func17, Try.ntmps17
    go_wp2
    all_goals (go_returns; refine ⟨ret_int ?_, by go_grown⟩; rw [E.out])
    all_goals (have hp := HP.out; have hq := HQ.out; try rw [show -(f - t) - d = t - f - d by omega] at *)
    all_goals (generalize (f - t - d) * g = P at *; generalize (t - f - d) * g = Q at *; (try simp only [wrap64] at *); omega)
  · have e : adjV t d g m f = 0 := by unfold adjV; rw [if_neg h]
    rw [e]
    have H := hid h
    clear e h
    go_enter Try.func17, Try.ntmps17
    go_wp2
    all_goals first
      | (go_returns; exact ⟨rfl, by go_grown⟩)
      | (exfalso; apply H.out; rw [ctlV_true]; (try simp only [Bool.not_eq_false', Bool.not_eq_true', decide_eq_true_eq, decide_eq_false_iff_not] at *); omega)
set_option maxRecDepth 100000 in
set_option maxHeartbeats 8000000 in
theorem sane18_any (w : World) :
    Calls Try.prog 13 #[] w fun e w' => e = .returned (.bool true) ∧ Below w.heap.size w w' := by
  go_enter Try.func13, Try.ntmps13
  go_wp2
  go_ret
  exact ⟨rfl, by go_grown⟩
end Go.Proofs.Ythmkkanjjlechaa
