/- Which device is ready, of at most one: no statement is proved here. -/
import Derived.Test.YtnfkcfogmficfaaPlugList
namespace Go.Proofs.Ytnfkcfogmficfaa
open Go.ChangeShapes Go.WideShapes Go.ChangeAt Go.RowKit
set_option linter.unusedVariables false
set_option linter.unusedSimpArgs false

theorem info_u64 : (Try.prog.info? 58).map (fun i => (i.zero, i.size, i.bytes)) = some (some (.int .u64 0), 1, 8) := by kernel_rfl
/-- a slice of so many numbers -/
def Many (n : Nat) (e : Ending) : Prop := ∃ (a : Option Addr) (c : Nat), e = .returned (.slice a n c)
set_option maxHeartbeats 8000000 in
set_option maxRecDepth 100000 in
theorem ready1_any (st : Int) (B : Nat) (v : Value) (id at_ t : Int) (h0 : 0 ≤ st) (h1 : st ≤ 4096) (i0 : 1 ≤ id) (t0 : 0 ≤ at_) (t1 : at_ ≤ 1099511627776) (u0 : 0 ≤ t) (u1 : t ≤ 1099511627776) (w : World) (h : One w B v id at_) :
    Calls Try.prog 37 #[.agg #[.int .i64 st, v], .int .i64 t] w fun e w' => Many (if at_ ≤ t - st then 1 else 0) e ∧ Below w.heap.size w w' := by
  have HO := hid h
  have c1 := hid (fun w h => valid1_any st B v id at_ h0 h1 i0 t0 t1 w h)
  have c3 := hid (fun w => istime_any t w)
  rw [show decide (0 ≤ t ∧ t ≤ 1099511627776) = true from decide_eq_true ⟨u0, u1⟩] at c3
  obtain ⟨g, cap, rfl, hB, hg, hc, hm, _, _⟩ := h.facts
  unfold maxLen at hm
  clear h
  have HL0 := hid (Lv.alloc (vs := [.int .i64 st, .slice (some ⟨g, 0, none⟩) 1 cap]) (T := 57) (Lv.start w))
  have hz : w.heap.size < (w.alloc (.cells #[.int .i64 st, .slice (some ⟨g, 0, none⟩) 1 cap] 57)).heap.size := by simp
  by_cases hr : at_ ≤ t - st
  · rw [if_pos hr]
    go_enter Try.func37, Try.ntmps37
    go_wp2_with fail
    (with_reducible refine (c1.out _ (HO.out.kept (by go_grown))).mono ?_); rintro e w1 ⟨rfl, hb⟩; have HL1 := hid (HL0.out.kept hb); have HO1 := hid ((HO.out.kept (w' := w.alloc (.cells #[.int .i64 st, .slice (some ⟨g, 0, none⟩) 1 cap] 57)) (by go_grown)).kept hb); clear hb HL0 HO
    obtain ⟨g2, cap2, e2, _, _, _, _, k0, k1⟩ := HO1.out.facts
    cases e2
    have hL := HL1.out.facts
    simp only [liveAt, cellsAt, and_true, Nat.zero_add, Nat.reduceAdd, World.size_alloc] at hL
    have hbel := HL1.out.below
    have hsz := HL1.out.size
    have hz1 := HL1.out.lt
    have hr2 : decide (at_ ≤ t - st) = true := decide_eq_true hr
    go_wp2_with (go_at_call 77; (with_reducible refine (c3.out _).mono ?_); rintro e w2 ⟨rfl, rfl⟩)
    refine wp_loop_rounds 2 ?_
    rw [rounds_succ]
    go_wp2_with fail
    rw [rounds_succ]
    go_wp2_with fail
    go_ret
    exact ⟨⟨_, _, rfl⟩, by go_grown⟩
  · rw [if_neg hr]
    go_enter Try.func37, Try.ntmps37
    go_wp2_with fail
    (with_reducible refine (c1.out _ (HO.out.kept (by go_grown))).mono ?_); rintro e w1 ⟨rfl, hb⟩; have HL1 := hid (HL0.out.kept hb); have HO1 := hid ((HO.out.kept (w' := w.alloc (.cells #[.int .i64 st, .slice (some ⟨g, 0, none⟩) 1 cap] 57)) (by go_grown)).kept hb); clear hb HL0 HO
    obtain ⟨g2, cap2, e2, _, _, _, _, k0, k1⟩ := HO1.out.facts
    cases e2
    have hL := HL1.out.facts
    simp only [liveAt, cellsAt, and_true, Nat.zero_add, Nat.reduceAdd, World.size_alloc] at hL
    have hbel := HL1.out.below
    have hsz := HL1.out.size
    have hz1 := HL1.out.lt
    have hr2 : decide (at_ ≤ t - st) = false := decide_eq_false (by omega)
    go_wp2_with (go_at_call 77; (with_reducible refine (c3.out _).mono ?_); rintro e w2 ⟨rfl, rfl⟩)
    refine wp_loop_rounds 2 ?_
    rw [rounds_succ]
    go_wp2_with fail
    rw [rounds_succ]
    go_wp2_with fail
    go_ret
    exact ⟨⟨none, 0, rfl⟩, by go_grown⟩
set_option maxHeartbeats 4000000 in
theorem ready0_any (st t : Int) (a : Option Addr) (c : Nat) (h0 : 0 ≤ st) (h1 : st ≤ 4096) (w : World) :
    Calls Try.prog 37 #[.agg #[.int .i64 st, .slice a 0 c], .int .i64 t] w fun e w' => Many 0 e ∧ Below w.heap.size w w' := by
  have c1 := hid (fun w => valid0_any st a c h0 h1 w)
  have c3 := hid (fun w => istime_any t w)
  have HL0 := hid (Lv.alloc (vs := [.int .i64 st, .slice a 0 c]) (T := 57) (Lv.start w))
  cases ht : decide (0 ≤ t ∧ t ≤ 1099511627776)
  all_goals
    rw [ht] at c3
    clear ht
    go_enter Try.func37, Try.ntmps37
    go_wp2_with fail
    (with_reducible refine (c1.out _).mono ?_); rintro e w1 ⟨rfl, hb⟩; have HL1 := hid (HL0.out.kept hb); clear hb HL0
    have hL := HL1.out.facts
    simp only [liveAt, cellsAt, and_true, Nat.zero_add, Nat.reduceAdd, World.size_alloc] at hL
    have hbel := HL1.out.below
    go_wp2_with (go_at_call 77; (with_reducible refine (c3.out _).mono ?_); rintro e w2 ⟨rfl, rfl⟩)
  · go_ret
    exact ⟨⟨none, 0, rfl⟩, by go_grown⟩
  · refine wp_loop_rounds 1 ?_
    rw [rounds_succ]
    go_wp2_with fail
    go_ret
    exact ⟨⟨none, 0, rfl⟩, by go_grown⟩
end Go.Proofs.Ytnfkcfogmficfaa
