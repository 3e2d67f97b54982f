/- The sanity of the laws of plugs: no statement is proved here. -/
import Derived.Test.YtnfkcfogmficfaaPlugReady
namespace Go.Proofs.Ytnfkcfogmficfaa
open Go.ChangeShapes Go.WideShapes Go.ChangeAt Go.RowKit
set_option linter.unusedVariables false
set_option linter.unusedSimpArgs false

set_option maxRecDepth 100000 in
set_option maxHeartbeats 16000000 in
theorem sane33_any (w : World) :
    Calls Try.prog 27 #[] w fun e w' => e = .returned (.bool true) ∧ Below w.heap.size w w' := by
  have c1 := hid (fun w => plug0_any 3 5 10 (by omega) (by omega) (by omega) (by omega) (by omega) w)
  have c2 := hid (fun (B : Nat) (v : Value) w h => ready1_any 3 B v 5 10 12 (by omega) (by omega) (by omega) (by omega) (by omega) (by omega) (by omega) w h)
  have c3 := hid (fun (B : Nat) (v : Value) w h => ready1_any 3 B v 5 10 13 (by omega) (by omega) (by omega) (by omega) (by omega) (by omega) (by omega) w h)
  have c4 := hid (fun w => beg_any 1 2 3 4 w)
  rw [show beg 2 3 4 = (1, 4) from by decide] at c4
  go_enter Try.func27, Try.ntmps27
  go_wp2_with fail
  (with_reducible refine (c1.out _).mono ?_); rintro e w1 ⟨⟨v, rfl, ho⟩, hb⟩; have HL1 := hid (Lv.alloc (vs := [.int .i64 3, v]) (T := 57) ((Lv.start w).kept hb)); have HO := hid (One.kept (w' := w1.alloc (.cells #[.int .i64 3, v] 57)) ho (by go_grown)); clear hb ho c1
  obtain ⟨g, cap, rfl, _, _, _, _, _, _⟩ := HO.out.facts
  have hL := HL1.out.facts
  simp only [liveAt, cellsAt, and_true, Nat.zero_add, Nat.reduceAdd, World.size_alloc] at hL
  go_wp2_with fail
  clear hL
  (with_reducible refine (c2.out _ _ _ HO.out).mono ?_); rintro e w2 ⟨⟨a2, k2, rfl⟩, hb⟩; have HL2 := hid (HL1.out.kept hb); have HO2 := hid (HO.out.kept hb); clear hb HL1 HO c2
  have hL := HL2.out.facts
  simp only [liveAt, cellsAt, and_true, Nat.zero_add, Nat.reduceAdd, World.size_alloc] at hL
  go_wp2_with fail
  clear hL
  (with_reducible refine (c3.out _ _ _ HO2.out).mono ?_); rintro e w3 ⟨⟨a3, k3, rfl⟩, hb⟩; have HL3 := hid (HL2.out.kept hb); clear hb HL2 HO2 c3
  go_wp2_with (go_at_call 43; (with_reducible refine (c4.out _).mono ?_); rintro e w4 ⟨rfl, hb⟩; have HL4 := hid (HL3.out.kept hb); clear hb)
  go_ret
  exact ⟨rfl, HL4.out.below⟩
end Go.Proofs.Ytnfkcfogmficfaa
