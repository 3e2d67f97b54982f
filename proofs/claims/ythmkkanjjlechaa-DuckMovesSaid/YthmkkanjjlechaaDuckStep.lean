/- Steps of envelopes: no statement is proved here. -/
import Derived.Test.YthmkkanjjlechaaDuck
import Derived.Deep.RegionHeld3
import Derived.Outline
namespace Go.Proofs.Ythmkkanjjlechaa
open Go.ChangeShapes Go.WideShapes Go.ChangeAt Go.RowKit
set_option linter.unusedVariables false
set_option linter.unusedSimpArgs false

def stepV (g q a r h x p : Int) : (Int × Int) × (Int × Int × Int × Int) × Int :=
  if duV g q a r h = false then ((0, 0), (0, 0, 0, 0), 1) else if 0 ≤ x ∧ x ≤ 262144 ∧ 16 ≤ p ∧ p ≤ 8192 then (nexV g q a r h x, (g, (nexV g q a r h x).1, p, 0), 0) else ((0, 0), (0, 0, 0, 0), 2)
theorem within_any (n lo hi : Int) (w : World) :
    Calls Try.prog 66 #[.int .i64 n, .int .i64 lo, .int .i64 hi] w fun e w' => e = .returned (.bool (decide (lo ≤ n ∧ n ≤ hi))) ∧ w = w' := by
  go_enter Try.func66, Try.ntmps66
  go_wp2
  all_goals go_ret
  all_goals refine ⟨ret_b ?_, rfl⟩
  all_goals (rw [Bool.eq_iff_iff]; simp; try omega)
set_option maxHeartbeats 4000000 in
theorem dstep_ok (g q a r h x p : Int) (hv : duV g q a r h = true) (hx : 0 ≤ x ∧ x ≤ 262144) (hp : 16 ≤ p ∧ p ≤ 8192) (w : World) :
    Calls Try.prog 34 #[.agg #[.int .i64 g, .int .i64 q], .agg #[.int .i64 a, .int .i64 r, .int .i64 h], .int .i64 x, .int .i64 p] w fun e w' => e = .returned (.tuple #[.agg #[.int .i64 (nexV g q a r h x).1, .int .i64 (nexV g q a r h x).2], .agg #[.int .i64 g, .int .i64 (nexV g q a r h x).1, .int .i64 p, .int .i64 0], .int .i64 0]) ∧ Below w.heap.size w w' := by
  have cv := hid (fun w => dvalid_any g q a r h w)
  rw [hv] at cv
  have cn := hid (fun w => dnext_any g q a r h x hv hx w)
  have w1 := hid (fun w => within_any x 0 262144 w)
  have w2 := hid (fun w => within_any p 16 8192 w)
  rw [show decide (0 ≤ x ∧ x ≤ 262144) = true from decide_eq_true hx] at w1
  rw [show decide (16 ≤ p ∧ p ≤ 8192) = true from decide_eq_true hp] at w2
  generalize (nexV g q a r h x).1 = G at *
  generalize (nexV g q a r h x).2 = Q at *
  clear hv hx hp
  go_enter Try.func34, Try.ntmps34
  go_wp2_with (first
    | (go_at_call 31; (with_reducible refine (cv.out _).mono ?_); rintro e v1 ⟨rfl, hb⟩; have HL := hid (Lv.kept (Lv.alloc (vs := [.int .i64 0, .int .i64 0, .int .i64 0, .int .i64 0]) (T := 67) (Lv.alloc (vs := [.int .i64 0, .int .i64 0]) (T := 59) (Lv.alloc (vs := [.int .i64 a, .int .i64 r, .int .i64 h]) (T := 61) (Lv.alloc (vs := [.int .i64 g, .int .i64 q]) (T := 59) (Lv.start w))))) hb); have hL := HL.out.facts; simp only [liveAt, cellsAt, and_true, Nat.zero_add, Nat.reduceAdd, World.size_alloc] at hL; clear hb)
    | (go_at_call 66; (with_reducible refine (w1.out _).mono ?_); rintro e v2 ⟨rfl, rfl⟩)
    | (go_at_call 66; (with_reducible refine (w2.out _).mono ?_); rintro e v2 ⟨rfl, rfl⟩)
    | (go_at_call 67; (with_reducible refine (cn.out _).mono ?_); rintro e v3 ⟨rfl, hb⟩; have hz : w.heap.size + 1 + 1 + 1 < v3.heap.size := (by have h1 := HL.out.lt; simp only [World.size_alloc] at h1; have h2 := hb.size; omega); have HL2 := hid (Lv.alloc (vs := [.int .i64 G, .int .i64 Q]) (T := 59) (HL.out.kept hb)); clear hL hb; have hL := HL2.out.facts; simp only [liveAt, cellsAt, and_true, Nat.zero_add, Nat.reduceAdd, World.size_alloc] at hL))
  have hbel := HL2.out.below
  clear HL HL2 cv w1 w2 cn
  generalize v3.heap.size = E at *
  generalize v3.alloc (.cells #[.int .i64 G, .int .i64 Q] 59) = W1 at *
  have n1 : E ≠ w.heap.size := by omega
  have n2 : E ≠ w.heap.size + 1 + 1 := by omega
  have n3 : E ≠ w.heap.size + 1 + 1 + 1 := by omega
  have n4 : w.heap.size + 1 + 1 ≠ E := by omega
  have n5 : w.heap.size + 1 + 1 + 1 ≠ E := by omega
  have n6 : w.heap.size ≠ w.heap.size + 1 + 1 := by omega
  have n7 : w.heap.size ≠ w.heap.size + 1 + 1 + 1 := by omega
  have n8 : w.heap.size + 1 + 1 ≠ w.heap.size := by omega
  have n9 : w.heap.size + 1 + 1 + 1 ≠ w.heap.size := by omega
  go_region_held3 (fun w' => w'.cell? ⟨E, 0, none⟩ = some (.int .i64 G) ∧ w'.cell? ⟨E, 1, none⟩ = some (.int .i64 Q) ∧ w'.cell? ⟨w.heap.size, 0, none⟩ = some (.int .i64 g)) (go_keep) (fail)
  all_goals go_wp2
  all_goals refine bodyPost_ret (by simp [results, Try.results34, go_sem, *]; try rfl) rfl ?_
  all_goals exact ⟨rfl, by go_grown⟩
set_option maxHeartbeats 4000000 in
theorem rdstep_ok (g q a r h x p : Int) (hv : duV g q a r h = true) (hx : 0 ≤ x ∧ x ≤ 262144) (hp : 16 ≤ p ∧ p ≤ 8192) (w : World) :
    Calls Try.prog 35 #[.agg #[.int .i64 g, .int .i64 q], .agg #[.int .i64 a, .int .i64 r, .int .i64 h], .int .i64 x, .int .i64 p] w fun e w' => e = .returned (.tuple #[.agg #[.int .i64 (nexV g q a r h x).1, .int .i64 (nexV g q a r h x).2], .agg #[.int .i64 g, .int .i64 (nexV g q a r h x).1, .int .i64 p, .int .i64 0], .int .i64 0]) ∧ Below w.heap.size w w' := by
  have cv := hid (fun w => rdvalid_any g q a r h w)
  rw [hv] at cv
  have cn := hid (fun w => dmoved_any g q a r h x hv hx w)
  generalize (nexV g q a r h x).1 = G at *
  generalize (nexV g q a r h x).2 = Q at *
  obtain ⟨x1, x2⟩ := hx
  obtain ⟨p1, p2⟩ := hp
  clear hv
  go_enter Try.func35, Try.ntmps35
  go_wp2_with (first
    | (go_at_call 32; (with_reducible refine (cv.out _).mono ?_); rintro e v1 ⟨rfl, hb⟩; have HL := hid (Lv.kept (Lv.alloc (vs := [.int .i64 0, .int .i64 0, .int .i64 0, .int .i64 0]) (T := 67) (Lv.alloc (vs := [.int .i64 0, .int .i64 0]) (T := 59) (Lv.alloc (vs := [.int .i64 a, .int .i64 r, .int .i64 h]) (T := 61) (Lv.alloc (vs := [.int .i64 g, .int .i64 q]) (T := 59) (Lv.start w))))) hb); have hL := HL.out.facts; simp only [liveAt, cellsAt, and_true, Nat.zero_add, Nat.reduceAdd, World.size_alloc] at hL; clear hb)
    | (go_at_call 68; (with_reducible refine (cn.out _).mono ?_); rintro e v3 ⟨rfl, hb⟩; have hz : w.heap.size + 1 + 1 + 1 < v3.heap.size := (by have h1 := HL.out.lt; simp only [World.size_alloc] at h1; have h2 := hb.size; omega); have HL2 := hid (Lv.alloc (vs := [.int .i64 G, .int .i64 Q]) (T := 59) (HL.out.kept hb)); clear hL hb; have hL := HL2.out.facts; simp only [liveAt, cellsAt, and_true, Nat.zero_add, Nat.reduceAdd, World.size_alloc] at hL))
  have hbel := HL2.out.below
  clear HL HL2 cv cn
  generalize v3.heap.size = E at *
  generalize v3.alloc (.cells #[.int .i64 G, .int .i64 Q] 59) = W1 at *
  have n1 : E ≠ w.heap.size := by omega
  have n2 : E ≠ w.heap.size + 1 + 1 := by omega
  have n3 : E ≠ w.heap.size + 1 + 1 + 1 := by omega
  have n4 : w.heap.size + 1 + 1 ≠ E := by omega
  have n5 : w.heap.size + 1 + 1 + 1 ≠ E := by omega
  have n6 : w.heap.size ≠ w.heap.size + 1 + 1 := by omega
  have n7 : w.heap.size ≠ w.heap.size + 1 + 1 + 1 := by omega
  have n8 : w.heap.size + 1 + 1 ≠ w.heap.size := by omega
  have n9 : w.heap.size + 1 + 1 + 1 ≠ w.heap.size := by omega
  go_region_held3 (fun w' => w'.cell? ⟨E, 0, none⟩ = some (.int .i64 G) ∧ w'.cell? ⟨E, 1, none⟩ = some (.int .i64 Q) ∧ w'.cell? ⟨w.heap.size, 0, none⟩ = some (.int .i64 g)) (go_keep) (fail)
  all_goals go_wp2
  all_goals refine bodyPost_ret (by simp [results, Try.results35, go_sem, *]; try rfl) rfl ?_
  all_goals exact ⟨rfl, by go_grown⟩
set_option maxHeartbeats 8000000 in
theorem dstep_no (g q a r h x p : Int) (hx : ¬ (duV g q a r h = true ∧ (0 ≤ x ∧ x ≤ 262144) ∧ 16 ≤ p ∧ p ≤ 8192)) (w : World) :
    Calls Try.prog 34 #[.agg #[.int .i64 g, .int .i64 q], .agg #[.int .i64 a, .int .i64 r, .int .i64 h], .int .i64 x, .int .i64 p] w fun e w' => e = .returned (.tuple #[.agg #[.int .i64 0, .int .i64 0], .agg #[.int .i64 0, .int .i64 0, .int .i64 0, .int .i64 0], .int .i64 (if duV g q a r h = true then 2 else 1)]) ∧ Below w.heap.size w w' := by
  have cv := hid (fun w => dvalid_any g q a r h w)
  have w1 := hid (fun w => within_any x 0 262144 w)
  have w2 := hid (fun w => within_any p 16 8192 w)
  cases hv : duV g q a r h
  · rw [hv] at cv
    clear hx
    go_enter Try.func34, Try.ntmps34
    go_wp2_with (first
      | (go_at_call 31; (with_reducible refine (cv.out _).mono ?_); rintro e v1 ⟨rfl, hb⟩; have HL := hid (Lv.kept (Lv.alloc (vs := [.int .i64 0, .int .i64 0, .int .i64 0, .int .i64 0]) (T := 67) (Lv.alloc (vs := [.int .i64 0, .int .i64 0]) (T := 59) (Lv.alloc (vs := [.int .i64 a, .int .i64 r, .int .i64 h]) (T := 61) (Lv.alloc (vs := [.int .i64 g, .int .i64 q]) (T := 59) (Lv.start w))))) hb); have hbel := HL.out.below; have hL := HL.out.facts; simp only [liveAt, cellsAt, and_true, Nat.zero_add, Nat.reduceAdd, World.size_alloc] at hL; clear hb))
    all_goals refine bodyPost_ret (by simp [results, Try.results34, go_sem, *]; try rfl) rfl ?_
    all_goals exact ⟨rfl, by go_grown⟩
  · rw [hv] at cv
    have HX := hid (fun k => hx ⟨hv, k⟩)
    clear hx hv
    go_enter Try.func34, Try.ntmps34
    go_wp2_with (first
      | (go_at_call 31; (with_reducible refine (cv.out _).mono ?_); rintro e v1 ⟨rfl, hb⟩; have HL := hid (Lv.kept (Lv.alloc (vs := [.int .i64 0, .int .i64 0, .int .i64 0, .int .i64 0]) (T := 67) (Lv.alloc (vs := [.int .i64 0, .int .i64 0]) (T := 59) (Lv.alloc (vs := [.int .i64 a, .int .i64 r, .int .i64 h]) (T := 61) (Lv.alloc (vs := [.int .i64 g, .int .i64 q]) (T := 59) (Lv.start w))))) hb); have hbel := HL.out.below; have hL := HL.out.facts; simp only [liveAt, cellsAt, and_true, Nat.zero_add, Nat.reduceAdd, World.size_alloc] at hL; clear hb)
      | (go_at_call 66; (with_reducible refine (w1.out _).mono ?_); rintro e v2 ⟨rfl, rfl⟩)
      | (go_at_call 66; (with_reducible refine (w2.out _).mono ?_); rintro e v2 ⟨rfl, rfl⟩))
    all_goals first
      | (exfalso; apply HX.out; (try simp only [Bool.not_eq_false', Bool.not_eq_true', decide_eq_true_eq, decide_eq_false_iff_not] at *); omega)
      | (refine bodyPost_ret (by simp [results, Try.results34, go_sem, *]; try rfl) rfl ?_; exact ⟨rfl, by go_grown⟩)
set_option maxHeartbeats 8000000 in
theorem rdstep_no (g q a r h x p : Int) (hx : ¬ (duV g q a r h = true ∧ (0 ≤ x ∧ x ≤ 262144) ∧ 16 ≤ p ∧ p ≤ 8192)) (w : World) :
    Calls Try.prog 35 #[.agg #[.int .i64 g, .int .i64 q], .agg #[.int .i64 a, .int .i64 r, .int .i64 h], .int .i64 x, .int .i64 p] w fun e w' => e = .returned (.tuple #[.agg #[.int .i64 0, .int .i64 0], .agg #[.int .i64 0, .int .i64 0, .int .i64 0, .int .i64 0], .int .i64 (if duV g q a r h = true then 2 else 1)]) ∧ Below w.heap.size w w' := by
  have cv := hid (fun w => rdvalid_any g q a r h w)
  cases hv : duV g q a r h
  · rw [hv] at cv
    clear hx
    go_enter Try.func35, Try.ntmps35
    go_wp2_with (first
      | (go_at_call 32; (with_reducible refine (cv.out _).mono ?_); rintro e v1 ⟨rfl, hb⟩; have HL := hid (Lv.kept (Lv.alloc (vs := [.int .i64 0, .int .i64 0, .int .i64 0, .int .i64 0]) (T := 67) (Lv.alloc (vs := [.int .i64 0, .int .i64 0]) (T := 59) (Lv.alloc (vs := [.int .i64 a, .int .i64 r, .int .i64 h]) (T := 61) (Lv.alloc (vs := [.int .i64 g, .int .i64 q]) (T := 59) (Lv.start w))))) hb); have hbel := HL.out.below; have hL := HL.out.facts; simp only [liveAt, cellsAt, and_true, Nat.zero_add, Nat.reduceAdd, World.size_alloc] at hL; clear hb))
    all_goals refine bodyPost_ret (by simp [results, Try.results35, go_sem, *]; try rfl) rfl ?_
    all_goals exact ⟨rfl, by go_grown⟩
  · rw [hv] at cv
    have HX := hid (fun k => hx ⟨hv, k⟩)
    clear hx hv
    go_enter Try.func35, Try.ntmps35
    go_wp2_with (first
      | (go_at_call 32; (with_reducible refine (cv.out _).mono ?_); rintro e v1 ⟨rfl, hb⟩; have HL := hid (Lv.kept (Lv.alloc (vs := [.int .i64 0, .int .i64 0, .int .i64 0, .int .i64 0]) (T := 67) (Lv.alloc (vs := [.int .i64 0, .int .i64 0]) (T := 59) (Lv.alloc (vs := [.int .i64 a, .int .i64 r, .int .i64 h]) (T := 61) (Lv.alloc (vs := [.int .i64 g, .int .i64 q]) (T := 59) (Lv.start w))))) hb); have hbel := HL.out.below; have hL := HL.out.facts; simp only [liveAt, cellsAt, and_true, Nat.zero_add, Nat.reduceAdd, World.size_alloc] at hL; clear hb))
    all_goals first
      | (exfalso; apply HX.out; (try simp only [Bool.not_eq_false', Bool.not_eq_true', decide_eq_true_eq, decide_eq_false_iff_not] at *); omega)
      | (refine bodyPost_ret (by simp [results, Try.results35, go_sem, *]; try rfl) rfl ?_; exact ⟨rfl, by go_grown⟩)
end Go.Proofs.Ythmkkanjjlechaa
