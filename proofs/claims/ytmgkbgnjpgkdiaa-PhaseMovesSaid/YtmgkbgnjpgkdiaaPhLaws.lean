/- The laws of phases: what is common to them. No statement is proved here. -/
import Derived.Test.YtmgkbgnjpgkdiaaPhPhase
import Derived.Test.YtmgkbgnjpgkdiaaPhMake
namespace Go.Proofs.Ytmgkbgnjpgkdiaa
open Go.ChangeShapes Go.WideShapes Go.ChangeAt Go.RowKit
set_option linter.unusedVariables false
set_option linter.unusedSimpArgs false

theorem v11 : phV 1 1 0 0 0 = true := by decide
theorem v147 : phV 147 160 0 0 0 = true := by decide
set_option maxRecDepth 100000 in
set_option maxHeartbeats 16000000 in
theorem sane_any (w : World) : Calls Try.prog 9 #[] w fun e w' => e = .returned (.bool true) ∧ Below w.heap.size w w' := by
  have c1 := hid (fun w => pnew_ok 1 1 v11 w)
  have c2 := hid (fun w => pneed_ok 1 1 0 0 0 4 v11 (by omega) (by omega) w)
  rw [show nd 1 1 0 0 4 = 5 by decide] at c2
  have c3 := hid (fun w => pnew_ok 147 160 v147 w)
  have c4 := hid (fun w => at_ok 147 160 0 0 0 160 v147 (by omega) (by omega) w)
  rw [show (0 : Int) + mv 147 0 0 160 / (160 * 65536) = 147 by decide, show mv 147 0 0 160 % (160 * 65536) = 0 by decide] at c4
  have c5 := hid (fun w => pvalid_any 1 1 0 0 0 w)
  rw [v11] at c5
  have HL0 := hid (Lv.start w)
  go_enter Try.func9, Try.ntmps9
  go_wp2_with fail
  (with_reducible refine (c1.out _).mono ?_); rintro e w1 ⟨rfl, hb⟩; have HL1 := hid (Lv.alloc (vs := [.int .i64 1, .int .i64 1, .int .i64 0, .int .i64 0, .int .i64 0]) (T := 25) (HL0.out.kept hb)); clear hb HL0
  have hL := HL1.out.facts
  simp only [liveAt, cellsAt, and_true, Nat.zero_add, Nat.reduceAdd, World.size_alloc] at hL
  go_wp2_with fail
  clear hL
  (with_reducible refine (c2.out _).mono ?_); rintro e w1 ⟨rfl, hb⟩; have HL2 := hid (HL1.out.kept hb); clear hb HL1
  have hL := HL2.out.facts
  simp only [liveAt, cellsAt, and_true, Nat.zero_add, Nat.reduceAdd, World.size_alloc] at hL
  go_wp2_with fail
  clear hL
  (with_reducible refine (c3.out _).mono ?_); rintro e w1 ⟨rfl, hb⟩; have HL3 := hid (Lv.alloc (vs := [.int .i64 147, .int .i64 160, .int .i64 0, .int .i64 0, .int .i64 0]) (T := 25) (HL2.out.kept hb)); clear hb HL2
  have hL := HL3.out.facts
  simp only [liveAt, cellsAt, and_true, Nat.zero_add, Nat.reduceAdd, World.size_alloc] at hL
  go_wp2_with fail
  clear hL
  (with_reducible refine (c4.out _).mono ?_); rintro e w1 ⟨rfl, hb⟩; have HL4 := hid (HL3.out.kept hb); clear hb HL3
  have hL := HL4.out.facts
  simp only [liveAt, cellsAt, and_true, Nat.zero_add, Nat.reduceAdd, World.size_alloc] at hL
  go_wp2_with fail
  clear hL
  (with_reducible refine (c5.out _).mono ?_); rintro e w1 ⟨rfl, hb⟩; have HL5 := hid (HL4.out.kept hb); clear hb HL4
  go_wp2_with fail
  go_ret
  exact ⟨rfl, HL5.out.below⟩
set_option maxHeartbeats 8000000 in
theorem made_any (a : Option Addr) (len cap : Nat) (l : List Int) (w : World) (hs : Sl .u8 w a len cap l) :
    Calls Try.prog 10 #[.slice a len cap] w fun e w' => (∃ n d a p f : Int, e = .returned (.agg #[.int .i64 n, .int .i64 d, .int .i64 a, .int .i64 p, .int .i64 f]) ∧ Mph n d a p f) ∧ Below w.heap.size w w' := by
  have HS := hid hs
  clear hs
  have HL0 := hid (Lv.alloc (vs := [.int .i64 0, .int .i64 0, .int .i64 0, .int .i64 0, .int .i64 0]) (T := 25) (Lv.start w))
  go_enter Try.func10, Try.ntmps10
  go_wp2_with fail
  (with_reducible refine (new_any a len cap l _ (HS.out.below HL0.out.below)).mono ?_); rintro e w7 ⟨d, rfl, hd0, hdk, hb⟩; have HL1 := hid (HL0.out.kept hb); clear hb
  have hz : w.heap.size + 1 ≤ d := by simpa [World.size_alloc] using hd0
  go_wp2_with fail
  (with_reducible refine (phase_any _ d hdk).mono ?_); rintro e w8 ⟨⟨n, dd, aa, p, f, rfl, hM⟩, _, hb⟩; have hl := HL1.out.turn d hb.os hb.tape hb.output hb.size hb.block (by omega) (by simp; omega); have HL2 := hid hl; have HM := hid hM; clear hb hl hM hdk
  have hL := HL2.out.facts
  simp only [liveAt, cellsAt, and_true, Nat.zero_add, Nat.reduceAdd, World.size_alloc] at hL
  go_wp2_with fail
  have hbel := HL2.out.below
  refine bodyPost_ret (by simp [results, Try.results10, go_sem, *]; try rfl) rfl ?_
  exact ⟨⟨n, dd, aa, p, f, rfl, HM.out⟩, by go_grown⟩
theorem Lv.set5 {W w : World} {b : Nat} {T : TypeId} {z0 z1 z2 z3 z4 : Value} {x0 x1 x2 x3 x4 : Int} {L : List (Nat × List Value × TypeId)} (h : Lv W w ((b, [z0, z1, z2, z3, z4], T) :: L)) (hL : ∀ y ∈ L, y.1 ≠ b) (hb : W.heap.size ≤ b) :
    Lv W (((((w.setCell ⟨b, 0, none⟩ (.int .i64 x0)).setCell ⟨b, 1, none⟩ (.int .i64 x1)).setCell ⟨b, 2, none⟩ (.int .i64 x2)).setCell ⟨b, 3, none⟩ (.int .i64 x3)).setCell ⟨b, 4, none⟩ (.int .i64 x4)) ((b, [.int .i64 x0, .int .i64 x1, .int .i64 x2, .int .i64 x3, .int .i64 x4], T) :: L) := by
  have hbl : Blk w b [z0, z1, z2, z3, z4] T := h.live.1
  have hs := ((((hbl.set 0 (.int .i64 x0)).set 1 (.int .i64 x1)).set 2 (.int .i64 x2)).set 3 (.int .i64 x3)).set 4 (.int .i64 x4)
  have ho : Only b w (((((w.setCell ⟨b, 0, none⟩ (.int .i64 x0)).setCell ⟨b, 1, none⟩ (.int .i64 x1)).setCell ⟨b, 2, none⟩ (.int .i64 x2)).setCell ⟨b, 3, none⟩ (.int .i64 x3)).setCell ⟨b, 4, none⟩ (.int .i64 x4)) := only_setCells [.int .i64 x0, .int .i64 x1, .int .i64 x2, .int .i64 x3, .int .i64 x4] 0 w
  exact ⟨h.below.trans (ho.below hb h.below.size), hs, h.live.2.turn ho.block hL⟩
theorem mph_P {n d a p f : Int} (h : Mph n d a p f) : PhP n d a p f ∧ p ≤ 4398046511104 := ⟨phV_P h.1, h.2⟩
end Go.Proofs.Ytmgkbgnjpgkdiaa
