/- The sanity of the laws of limiters. No statement is proved here. -/
import Derived.Test.YtbcifmddbhnkhaaLimMade
import Derived.Deep.DeepCutAuto
namespace Go.Proofs.Ytbcifmddbhnkhaa
open Go.ChangeShapes Go.WideShapes Go.ChangeAt Go.RowKit
set_option linter.unusedVariables false
set_option linter.unusedSimpArgs false

theorem lrun_w (t r g ci : Int) (c M n : Nat) (a : Option Addr) (cap : Nat) (l : List Int) (w : World) (hci : ci = (c : Int)) (hn : n = M * c) (ht : 1 ≤ t ∧ t ≤ 8388607) (hr : 1 ≤ r ∧ r ≤ 65536) (hg : 0 ≤ g ∧ g ≤ 65536) (hc : 1 ≤ c ∧ c ≤ 8) (hM : M ≤ 65536)
    (hs : Sl .i64 w a n cap l) (hb : ∀ s ∈ l, -1099511627776 ≤ s ∧ s ≤ 1099511627776) :
    Calls Try.prog 12 #[.agg #[.int .i64 t, .int .i64 r, .int .i64 g], .int .i64 ci, .slice a n cap] w fun e w' => ∃ G : Nat, e = .returned (.tuple #[.agg #[.int .i64 ci, .slice (some ⟨G, 0, none⟩) n n], .agg #[.int .i64 t, .int .i64 r, .int .i64 (runL c t r M g l).2], .int .i64 0]) ∧ Blk w' G ((runL c t r M g l).1.map (Value.int .i32)) 21 ∧ w.heap.size ≤ G ∧ Below w.heap.size w w' := by
  subst hci; subst hn; exact lrun_any t r g c M a cap l w ht hr hg hc hM hs hb
set_option maxRecDepth 100000 in
set_option maxHeartbeats 8000000 in
theorem sane_any (w : World) :
    Calls Try.prog 8 #[] w fun e w' => e = .returned (.bool true) ∧ Below w.heap.size w w' := by
  have c1 := hid (fun w => lnew_any 100 1000 w (by omega) (by omega))
  have c2 := hid (fun (w : World) h => lrun_w 100 1000 65536 1 1 2 2 (some ⟨w.heap.size, 0, none⟩) 2 [200, 50] (w.alloc (.cells #[.int .i64 200, .int .i64 50] 2)) rfl rfl (by omega) (by omega) (by omega) (by omega) (by omega) h (by intro s hs; simp at hs; omega))
  rw [show runL 1 100 1000 2 65536 [200, 50] = ([100, 25], 33768) from by decide] at c2
  have c3 := hid (fun w => needed_any 100 200 w)
  rw [show needL 100 200 = 32768 from by decide] at c3
  have c4 := hid (fun w => lvalid_any 100 1000 65536 w)
  rw [show limB 100 1000 65536 = true from by decide] at c4
  have H0 := hid (Lx.start w)
  go_enter Try.func8, Try.ntmps8
  go_wp2_with fail
  (with_reducible refine (c1.out _).mono ?_); rintro e w1 ⟨rfl, hb⟩; have H1 := hid ((H0.out.kept hb).alloc (vs := [.int .i64 100, .int .i64 1000, .int .i64 65536]) (T := 23)); clear hb H0
  go_upto_region 2 with (fail)
  generalize w1.alloc (.cells #[.int .i64 100, .int .i64 1000, .int .i64 65536] 23) = W1 at *
  generalize w1.heap.size = B1 at *
  have hL := H1.out.facts
  simp only [liveAt, cellsAt, and_true, Nat.zero_add, Nat.reduceAdd, World.size_alloc] at hL
  go_wp2_with fail
  have hsl := sl_lit (k := .i64) (w := W1) (e := 2) (fr := (0, 0)) [200, 50] (by decide) (by decide)
  (with_reducible refine (c2.out _ hsl).mono ?_); rintro e w2 ⟨G, rfl, hB, hG, hb⟩
  have hA : Below W1.heap.size W1 (W1.alloc (.cells #[.int .i64 200, .int .i64 50] 2)) := by go_grown
  have H2 := hid (((H1.out.kept hA).keptNew hb hB hG).alloc (vs := [.int .i64 1, .slice (some ⟨G, 0, none⟩) 2 2]) (T := 36) |>.alloc (vs := [.int .i64 100, .int .i64 1000, .int .i64 33768]) (T := 23))
  clear hb hB hG hA hsl hL H1
  have hL := H2.out.facts
  simp only [liveAt, cellsAt, and_true, Nat.zero_add, Nat.reduceAdd, World.size_alloc, List.map_cons, List.map_nil] at hL
  go_wp2_with (first | (go_at_call 19; (with_reducible refine (c3.out _).mono ?_); rintro e w3 ⟨rfl, rfl⟩) | (go_at_call 17; (with_reducible refine (c4.out _).mono ?_); rintro e w4 ⟨rfl, hb4⟩))
  go_ret
  exact ⟨rfl, (H2.out.kept hb4).below⟩
end Go.Proofs.Ytbcifmddbhnkhaa
