/- The sanity of the laws of envelopes: no statement is proved here. -/
import Derived.Test.YthmkkanjjlechaaDuckQuanta
namespace Go.Proofs.Ythmkkanjjlechaa
open Go.ChangeShapes Go.WideShapes Go.ChangeAt Go.RowKit
set_option linter.unusedVariables false
set_option linter.unusedSimpArgs false

set_option maxHeartbeats 8000000 in
theorem sane32_any (w : World) :
    Calls Try.prog 29 #[] w fun e w' => e = .returned (.bool true) ∧ Below w.heap.size w w' := by
  have c1 := hid (fun w => dstep_ok 65536 0 32768 16384 2 0 64 (by decide) (by omega) (by omega) w)
  rw [show nexV 65536 0 32768 16384 2 0 = (32768, 2) from by decide] at c1
  have c2 := hid (fun w => dquanta_any 0 2 32768 16384 2 65536 w)
  rw [show quaV 0 2 32768 16384 2 65536 = 6 from by decide] at c2
  go_enter Try.func29, Try.ntmps29
  go_wp2_with fail
  (with_reducible refine (c1.out _).mono ?_); rintro e w1 ⟨rfl, hb⟩; have H1 := hid (Lv.alloc (vs := [.int .i64 65536, .int .i64 32768, .int .i64 64, .int .i64 0]) (T := 67) (Lv.alloc (vs := [.int .i64 32768, .int .i64 2]) (T := 59) (Lv.kept (Lv.alloc (vs := [.int .i64 32768, .int .i64 16384, .int .i64 2]) (T := 61) (Lv.start w)) hb))); clear hb
  have hL := H1.out.facts
  simp only [liveAt, cellsAt, and_true, Nat.zero_add, Nat.reduceAdd, World.size_alloc] at hL
  go_wp2_with fail
  (with_reducible refine (c2.out _).mono ?_); rintro e w2 ⟨rfl, hb⟩; have hbel := (H1.out.kept hb).below; clear hb
  go_wp2
  go_ret
  exact ⟨rfl, hbel⟩
end Go.Proofs.Ythmkkanjjlechaa
