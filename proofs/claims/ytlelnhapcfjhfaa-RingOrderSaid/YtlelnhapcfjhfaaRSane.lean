/- The sanity of the laws of rings. No statement is proved here. -/
import Derived.Test.YtlelnhapcfjhfaaROrd
namespace Go.Proofs.Ytlelnhapcfjhfaa
open Go.ChangeShapes Go.WideShapes Go.ChangeAt Go.RowKit
set_option linter.unusedVariables false
set_option linter.unusedSimpArgs false

set_option maxRecDepth 100000 in
set_option maxHeartbeats 8000000 in
theorem sane_any (w : World) :
    Calls Try.prog 7 #[] w fun e w' => e = .returned (.bool true) ∧ Below w.heap.size w w' := by
  have H0 := hid (Lx.start w)
  go_enter Try.func7, Try.ntmps7
  go_wp2_with fail
  (with_reducible refine (san_new _).mono ?_); rintro e w1 ⟨rfl, hb⟩; have H1 := hid ((H0.out.kept hb).alloc (vs := [.int .i64 1, .int .i64 2, .int .i64 0, .int .i64 0, .slice none 0 0]) (T := 24)); clear hb H0
  go_upto_region 2 with (fail)
  generalize w1.alloc (.cells #[.int .i64 1, .int .i64 2, .int .i64 0, .int .i64 0, .slice none 0 0] 24) = W1 at *
  generalize w1.heap.size = B1 at *
  have hL := H1.out.facts
  simp only [liveAt, cellsAt, and_true, Nat.zero_add, Nat.reduceAdd, World.size_alloc] at hL
  go_wp2_with fail
  have hsl := sl_lit (k := .i32) (w := W1) (e := 21) (fr := (0, 0)) [1, 2, 3] (by decide) (by decide)
  (with_reducible refine (san_write _ _ hsl).mono ?_); rintro e w2 ⟨G, rfl, hB, hG, hb⟩
  have hA : Below W1.heap.size W1 (W1.alloc (.cells #[.int .i32 1, .int .i32 2, .int .i32 3] 21)) := by go_grown
  have H2 := hid ((H1.out.kept hA).keptNew hb hB hG)
  clear hb hB hG hA hsl hL H1
  have hL := H2.out.facts
  simp only [liveAt, cellsAt, and_true, Nat.zero_add, Nat.reduceAdd, World.size_alloc, List.map_cons, List.map_nil] at hL
  go_upto_region 3 with (fail)
  have H3 := hid (H2.out.set5 1 (.int .i64 1) (.int .i64 2) (.int .i64 2) (.int .i64 0) (.slice (some ⟨G, 0, none⟩) 2 2) rfl)
  simp only [List.set_cons_zero, List.set_cons_succ] at H3
  clear hL
  generalize (((((w2.setCell ⟨B1, 0, none⟩ (.int .i64 1)).setCell ⟨B1, 1, none⟩ (.int .i64 2)).setCell ⟨B1, 2, none⟩ (.int .i64 2)).setCell ⟨B1, 3, none⟩ (.int .i64 0)).setCell ⟨B1, 4, none⟩ (.slice (some ⟨G, 0, none⟩) 2 2)) = W3 at *
  have hL := H3.out.facts
  simp only [liveAt, cellsAt, and_true, Nat.zero_add, Nat.reduceAdd, World.size_alloc, List.map_cons, List.map_nil] at hL
  have hs3 := hid (sl_of_blk (k := .i32) (l := [1, 2]) (H3.out.blk 0 rfl) (by decide) 2 rfl (by decide))
  go_wp2_with fail
  (with_reducible refine (san_read _ _ hs3.out).mono ?_); rintro e w4 ⟨O, v, rfl, hv, hB, hG, hb⟩
  obtain ⟨G2, rfl⟩ := hv
  have H4 := hid (((H3.out.keptNew hb hB hG).alloc (vs := [.int .i64 1, .slice (some ⟨O, 0, none⟩) 3 3]) (T := 26)).alloc (vs := [.int .i64 1, .int .i64 2, .int .i64 2, .int .i64 2, .slice (some ⟨G2, 0, none⟩) 0 0]) (T := 24))
  have hs4 := hid (hs3.out.below ((hb.alloc hb.size (.cells #[.int .i64 1, .slice (some ⟨O, 0, none⟩) 3 3] 26)).alloc (by have := hb.size; simp; omega) (.cells #[.int .i64 1, .int .i64 2, .int .i64 2, .int .i64 2, .slice (some ⟨G2, 0, none⟩) 0 0] 24)))
  simp only [World.size_alloc] at H4
  clear hL hb hB hG
  go_upto_region 4 with (fail)
  generalize (w4.alloc (.cells #[.int .i64 1, .slice (some ⟨O, 0, none⟩) 3 3] 26)).alloc (.cells #[.int .i64 1, .int .i64 2, .int .i64 2, .int .i64 2, .slice (some ⟨G2, 0, none⟩) 0 0] 24) = W4 at *
  generalize w4.heap.size + 1 = B5 at *
  generalize w4.heap.size = B4 at *
  have hL := H4.out.facts
  simp only [liveAt, cellsAt, and_true, Nat.zero_add, Nat.reduceAdd, World.size_alloc, List.map_cons, List.map_nil] at hL
  have hf := hid (san_fill _ W4 hs4.out)
  have hv := hid (fun (w' : World) (hb : Below W4.heap.size W4 w') => san_valid _ w' (hs4.out.below hb))
  have hF := hid (fun (w' : World) (hb : Below W4.heap.size W4 w') => san_fill _ w' (hs4.out.below hb))
  have hr := hid (Below.refl W4.heap.size W4)
  go_wp2_with (first | (go_at_call 23; (with_reducible refine (hF.out _ hr.out).mono ?_); rintro e w5 ⟨rfl, hb5⟩; have hL5 := (H4.out.kept hb5).facts; simp only [liveAt, cellsAt, and_true, Nat.zero_add, Nat.reduceAdd, World.size_alloc, List.map_cons, List.map_nil] at hL5) | (go_at_call 21; (with_reducible refine (hv.out _ (by assumption)).mono ?_); rintro e w6 ⟨rfl, hb6⟩))
  go_ret
  exact ⟨rfl, (((H4.out.kept hb5).kept hb6)).below⟩
end Go.Proofs.Ytlelnhapcfjhfaa
