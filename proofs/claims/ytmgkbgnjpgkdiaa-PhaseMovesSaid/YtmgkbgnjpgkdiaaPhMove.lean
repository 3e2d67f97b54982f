/- Phases: moved, tuned and new ones. No statement is proved here. -/
import Derived.Test.YtmgkbgnjpgkdiaaPhAt
namespace Go.Proofs.Ytmgkbgnjpgkdiaa
open Go.ChangeShapes Go.WideShapes Go.ChangeAt Go.RowKit
set_option linter.unusedVariables false
set_option linter.unusedSimpArgs false

set_option maxHeartbeats 8000000 in
theorem adv_ok (n d a p f i : Int) (h : phV n d a p f = true) (hi : 0 ≤ i) (hi2 : i ≤ 65536) (hq : p + mv n a f i / (d * 65536) ≤ 1125899906842624) (w : World) :
    Calls Try.prog 13 #[.agg #[.int .i64 n, .int .i64 d, .int .i64 a, .int .i64 p, .int .i64 f], .int .i64 i] w fun e w' => e = .returned (.tuple #[.agg #[.int .i64 n, .int .i64 d, .int .i64 a, .int .i64 (p + mv n a f i / (d * 65536)), .int .i64 (mv n a f i % (d * 65536))], .int .i64 0]) ∧ Below w.heap.size w w' := by
  have c1 := hid (fun w => at_ok n d a p f i h hi hi2 w)
  clear h hi hi2
  generalize p + mv n a f i / (d * 65536) = X at *
  generalize mv n a f i % (d * 65536) = Y at *
  go_enter Try.func13, Try.ntmps13
  go_wp2_with fail
  (with_reducible refine (c1.out _).mono ?_); rintro e w1 ⟨rfl, hb⟩; have HL := hid (Lv.kept (by have h := Lv.alloc (vs := [.int .i64 0, .int .i64 0, .int .i64 0, .int .i64 0, .int .i64 0]) (T := 25) (Lv.alloc (vs := [.int .i64 n, .int .i64 d, .int .i64 a, .int .i64 p, .int .i64 f]) (T := 25) (Lv.start w)); simp only [World.size_alloc] at h; exact h : Lv w ((w.alloc (.cells #[.int .i64 n, .int .i64 d, .int .i64 a, .int .i64 p, .int .i64 f] 25)).alloc (.cells #[.int .i64 0, .int .i64 0, .int .i64 0, .int .i64 0, .int .i64 0] 25)) [(w.heap.size + 1, [.int .i64 0, .int .i64 0, .int .i64 0, .int .i64 0, .int .i64 0], 25), (w.heap.size, [.int .i64 n, .int .i64 d, .int .i64 a, .int .i64 p, .int .i64 f], 25)]) hb); clear hb c1
  have hL := HL.out.facts
  simp only [liveAt, cellsAt, and_true, Nat.zero_add, Nat.reduceAdd, World.size_alloc] at hL
  go_wp2_with fail
  have hbel := HL.out.below
  refine bodyPost_ret (by simp [results, Try.results13, go_sem, *]; try rfl) rfl ?_
  exact ⟨rfl, by go_grown⟩
set_option maxHeartbeats 8000000 in
theorem adv_far (n d a p f i : Int) (h : phV n d a p f = true) (hi : 0 ≤ i) (hi2 : i ≤ 65536) (hq : 1125899906842624 < p + mv n a f i / (d * 65536)) (w : World) :
    Calls Try.prog 13 #[.agg #[.int .i64 n, .int .i64 d, .int .i64 a, .int .i64 p, .int .i64 f], .int .i64 i] w fun e w' => e = .returned (.tuple #[.agg #[.int .i64 0, .int .i64 0, .int .i64 0, .int .i64 0, .int .i64 0], .int .i64 2]) ∧ Below w.heap.size w w' := by
  have c1 := hid (fun w => at_ok n d a p f i h hi hi2 w)
  clear h hi hi2
  generalize p + mv n a f i / (d * 65536) = X at *
  generalize mv n a f i % (d * 65536) = Y at *
  go_enter Try.func13, Try.ntmps13
  go_wp2_with fail
  (with_reducible refine (c1.out _).mono ?_); rintro e w1 ⟨rfl, hb⟩; have HL := hid (Lv.kept (by have h := Lv.alloc (vs := [.int .i64 0, .int .i64 0, .int .i64 0, .int .i64 0, .int .i64 0]) (T := 25) (Lv.alloc (vs := [.int .i64 n, .int .i64 d, .int .i64 a, .int .i64 p, .int .i64 f]) (T := 25) (Lv.start w)); simp only [World.size_alloc] at h; exact h : Lv w ((w.alloc (.cells #[.int .i64 n, .int .i64 d, .int .i64 a, .int .i64 p, .int .i64 f] 25)).alloc (.cells #[.int .i64 0, .int .i64 0, .int .i64 0, .int .i64 0, .int .i64 0] 25)) [(w.heap.size + 1, [.int .i64 0, .int .i64 0, .int .i64 0, .int .i64 0, .int .i64 0], 25), (w.heap.size, [.int .i64 n, .int .i64 d, .int .i64 a, .int .i64 p, .int .i64 f], 25)]) hb); clear hb c1
  have hL := HL.out.facts
  simp only [liveAt, cellsAt, and_true, Nat.zero_add, Nat.reduceAdd, World.size_alloc] at hL
  go_wp2_with fail
  have hbel := HL.out.below
  refine bodyPost_ret (by simp [results, Try.results13, go_sem, *]; try rfl) rfl ?_
  exact ⟨rfl, by go_grown⟩
set_option maxHeartbeats 8000000 in
theorem adv_bad (n d a p f i : Int) (h : ¬ (phV n d a p f = true ∧ 0 ≤ i ∧ i ≤ 65536)) (w : World) :
    Calls Try.prog 13 #[.agg #[.int .i64 n, .int .i64 d, .int .i64 a, .int .i64 p, .int .i64 f], .int .i64 i] w fun e w' => e = .returned (.tuple #[.agg #[.int .i64 0, .int .i64 0, .int .i64 0, .int .i64 0, .int .i64 0], .int .i64 (chkE (phV n d a p f) i 65536)]) ∧ Below w.heap.size w w' := by
  have c1 := hid (fun w => at_bad n d a p f i h w)
  obtain ⟨z1, z2⟩ := chkE_bad h
  clear h
  generalize chkE (phV n d a p f) i 65536 = E at *
  go_enter Try.func13, Try.ntmps13
  go_wp2_with fail
  (with_reducible refine (c1.out _).mono ?_); rintro e w1 ⟨rfl, hb⟩; have HL := hid (Lv.kept (by have h := Lv.alloc (vs := [.int .i64 0, .int .i64 0, .int .i64 0, .int .i64 0, .int .i64 0]) (T := 25) (Lv.alloc (vs := [.int .i64 n, .int .i64 d, .int .i64 a, .int .i64 p, .int .i64 f]) (T := 25) (Lv.start w)); simp only [World.size_alloc] at h; exact h : Lv w ((w.alloc (.cells #[.int .i64 n, .int .i64 d, .int .i64 a, .int .i64 p, .int .i64 f] 25)).alloc (.cells #[.int .i64 0, .int .i64 0, .int .i64 0, .int .i64 0, .int .i64 0] 25)) [(w.heap.size + 1, [.int .i64 0, .int .i64 0, .int .i64 0, .int .i64 0, .int .i64 0], 25), (w.heap.size, [.int .i64 n, .int .i64 d, .int .i64 a, .int .i64 p, .int .i64 f], 25)]) hb); clear hb c1
  have hL := HL.out.facts
  simp only [liveAt, cellsAt, and_true, Nat.zero_add, Nat.reduceAdd, World.size_alloc] at hL
  go_wp2_with fail
  have hbel := HL.out.below
  refine bodyPost_ret (by simp [results, Try.results13, go_sem, *]; try rfl) rfl ?_
  exact ⟨rfl, by go_grown⟩
set_option maxHeartbeats 8000000 in
theorem radv_ok (n d a p f i : Int) (h : phV n d a p f = true) (hi : 0 ≤ i) (hi2 : i ≤ 65536) (hq : p + mv n a f i / (d * 65536) ≤ 1125899906842624) (w : World) :
    Calls Try.prog 14 #[.agg #[.int .i64 n, .int .i64 d, .int .i64 a, .int .i64 p, .int .i64 f], .int .i64 i] w fun e w' => e = .returned (.tuple #[.agg #[.int .i64 n, .int .i64 d, .int .i64 a, .int .i64 (p + mv n a f i / (d * 65536)), .int .i64 (mv n a f i % (d * 65536))], .int .i64 0]) ∧ Below w.heap.size w w' := by
  have c1 := hid (fun w => rat_ok n d a p f i h hi hi2 w)
  clear h hi hi2
  generalize p + mv n a f i / (d * 65536) = X at *
  generalize mv n a f i % (d * 65536) = Y at *
  go_enter Try.func14, Try.ntmps14
  go_wp2_with fail
  (with_reducible refine (c1.out _).mono ?_); rintro e w1 ⟨rfl, hb⟩; have HL := hid (Lv.kept (by have h := Lv.alloc (vs := [.int .i64 0, .int .i64 0, .int .i64 0, .int .i64 0, .int .i64 0]) (T := 25) (Lv.alloc (vs := [.int .i64 n, .int .i64 d, .int .i64 a, .int .i64 p, .int .i64 f]) (T := 25) (Lv.start w)); simp only [World.size_alloc] at h; exact h : Lv w ((w.alloc (.cells #[.int .i64 n, .int .i64 d, .int .i64 a, .int .i64 p, .int .i64 f] 25)).alloc (.cells #[.int .i64 0, .int .i64 0, .int .i64 0, .int .i64 0, .int .i64 0] 25)) [(w.heap.size + 1, [.int .i64 0, .int .i64 0, .int .i64 0, .int .i64 0, .int .i64 0], 25), (w.heap.size, [.int .i64 n, .int .i64 d, .int .i64 a, .int .i64 p, .int .i64 f], 25)]) hb); clear hb c1
  have hL := HL.out.facts
  simp only [liveAt, cellsAt, and_true, Nat.zero_add, Nat.reduceAdd, World.size_alloc] at hL
  go_wp2_with fail
  have hbel := HL.out.below
  refine bodyPost_ret (by simp [results, Try.results14, go_sem, *]; try rfl) rfl ?_
  exact ⟨rfl, by go_grown⟩
set_option maxHeartbeats 8000000 in
theorem radv_far (n d a p f i : Int) (h : phV n d a p f = true) (hi : 0 ≤ i) (hi2 : i ≤ 65536) (hq : 1125899906842624 < p + mv n a f i / (d * 65536)) (w : World) :
    Calls Try.prog 14 #[.agg #[.int .i64 n, .int .i64 d, .int .i64 a, .int .i64 p, .int .i64 f], .int .i64 i] w fun e w' => e = .returned (.tuple #[.agg #[.int .i64 0, .int .i64 0, .int .i64 0, .int .i64 0, .int .i64 0], .int .i64 2]) ∧ Below w.heap.size w w' := by
  have c1 := hid (fun w => rat_ok n d a p f i h hi hi2 w)
  clear h hi hi2
  generalize p + mv n a f i / (d * 65536) = X at *
  generalize mv n a f i % (d * 65536) = Y at *
  go_enter Try.func14, Try.ntmps14
  go_wp2_with fail
  (with_reducible refine (c1.out _).mono ?_); rintro e w1 ⟨rfl, hb⟩; have HL := hid (Lv.kept (by have h := Lv.alloc (vs := [.int .i64 0, .int .i64 0, .int .i64 0, .int .i64 0, .int .i64 0]) (T := 25) (Lv.alloc (vs := [.int .i64 n, .int .i64 d, .int .i64 a, .int .i64 p, .int .i64 f]) (T := 25) (Lv.start w)); simp only [World.size_alloc] at h; exact h : Lv w ((w.alloc (.cells #[.int .i64 n, .int .i64 d, .int .i64 a, .int .i64 p, .int .i64 f] 25)).alloc (.cells #[.int .i64 0, .int .i64 0, .int .i64 0, .int .i64 0, .int .i64 0] 25)) [(w.heap.size + 1, [.int .i64 0, .int .i64 0, .int .i64 0, .int .i64 0, .int .i64 0], 25), (w.heap.size, [.int .i64 n, .int .i64 d, .int .i64 a, .int .i64 p, .int .i64 f], 25)]) hb); clear hb c1
  have hL := HL.out.facts
  simp only [liveAt, cellsAt, and_true, Nat.zero_add, Nat.reduceAdd, World.size_alloc] at hL
  go_wp2_with fail
  have hbel := HL.out.below
  refine bodyPost_ret (by simp [results, Try.results14, go_sem, *]; try rfl) rfl ?_
  exact ⟨rfl, by go_grown⟩
set_option maxHeartbeats 8000000 in
theorem radv_bad (n d a p f i : Int) (h : ¬ (phV n d a p f = true ∧ 0 ≤ i ∧ i ≤ 65536)) (w : World) :
    Calls Try.prog 14 #[.agg #[.int .i64 n, .int .i64 d, .int .i64 a, .int .i64 p, .int .i64 f], .int .i64 i] w fun e w' => e = .returned (.tuple #[.agg #[.int .i64 0, .int .i64 0, .int .i64 0, .int .i64 0, .int .i64 0], .int .i64 (chkE (phV n d a p f) i 65536)]) ∧ Below w.heap.size w w' := by
  have c1 := hid (fun w => rat_bad n d a p f i h w)
  obtain ⟨z1, z2⟩ := chkE_bad h
  clear h
  generalize chkE (phV n d a p f) i 65536 = E at *
  go_enter Try.func14, Try.ntmps14
  go_wp2_with fail
  (with_reducible refine (c1.out _).mono ?_); rintro e w1 ⟨rfl, hb⟩; have HL := hid (Lv.kept (by have h := Lv.alloc (vs := [.int .i64 0, .int .i64 0, .int .i64 0, .int .i64 0, .int .i64 0]) (T := 25) (Lv.alloc (vs := [.int .i64 n, .int .i64 d, .int .i64 a, .int .i64 p, .int .i64 f]) (T := 25) (Lv.start w)); simp only [World.size_alloc] at h; exact h : Lv w ((w.alloc (.cells #[.int .i64 n, .int .i64 d, .int .i64 a, .int .i64 p, .int .i64 f] 25)).alloc (.cells #[.int .i64 0, .int .i64 0, .int .i64 0, .int .i64 0, .int .i64 0] 25)) [(w.heap.size + 1, [.int .i64 0, .int .i64 0, .int .i64 0, .int .i64 0, .int .i64 0], 25), (w.heap.size, [.int .i64 n, .int .i64 d, .int .i64 a, .int .i64 p, .int .i64 f], 25)]) hb); clear hb c1
  have hL := HL.out.facts
  simp only [liveAt, cellsAt, and_true, Nat.zero_add, Nat.reduceAdd, World.size_alloc] at hL
  go_wp2_with fail
  have hbel := HL.out.below
  refine bodyPost_ret (by simp [results, Try.results14, go_sem, *]; try rfl) rfl ?_
  exact ⟨rfl, by go_grown⟩
set_option maxHeartbeats 8000000 in
theorem tune_ok (n d a p f i : Int) (h : phV n d a p f = true) (h1 : -4096 ≤ i) (h2 : i ≤ 4096) (w : World) :
    Calls Try.prog 15 #[.agg #[.int .i64 n, .int .i64 d, .int .i64 a, .int .i64 p, .int .i64 f], .int .i64 i] w fun e w' => e = .returned (.tuple #[.agg #[.int .i64 n, .int .i64 d, .int .i64 i, .int .i64 p, .int .i64 f], .int .i64 0]) ∧ Below w.heap.size w w' := by
  have c1 := hid (fun w => pvalid_any n d a p f w)
  rw [h] at c1
  clear h
  have c2 := hid (fun w => isAdjust_any i w)
  rw [adjB_iff.2 ⟨h1, h2⟩] at c2
  clear h1 h2
  go_enter Try.func15, Try.ntmps15
  go_wp2_with fail
  (with_reducible refine (c1.out _).mono ?_); rintro e w1 ⟨rfl, hb⟩; have HL := hid (Lv.kept (by have h := Lv.alloc (vs := [.int .i64 0, .int .i64 0, .int .i64 0, .int .i64 0, .int .i64 0]) (T := 25) (Lv.alloc (vs := [.int .i64 n, .int .i64 d, .int .i64 a, .int .i64 p, .int .i64 f]) (T := 25) (Lv.start w)); simp only [World.size_alloc] at h; exact h : Lv w ((w.alloc (.cells #[.int .i64 n, .int .i64 d, .int .i64 a, .int .i64 p, .int .i64 f] 25)).alloc (.cells #[.int .i64 0, .int .i64 0, .int .i64 0, .int .i64 0, .int .i64 0] 25)) [(w.heap.size + 1, [.int .i64 0, .int .i64 0, .int .i64 0, .int .i64 0, .int .i64 0], 25), (w.heap.size, [.int .i64 n, .int .i64 d, .int .i64 a, .int .i64 p, .int .i64 f], 25)]) hb); clear hb c1
  have hL := HL.out.facts
  simp only [liveAt, cellsAt, and_true, Nat.zero_add, Nat.reduceAdd, World.size_alloc] at hL
  go_wp2_with (go_at_call 32; (with_reducible refine (c2.out _).mono ?_); rintro e w2 ⟨rfl, rfl⟩)
  have hbel := HL.out.below
  refine bodyPost_ret (by simp [results, Try.results15, go_sem, *]; try rfl) rfl ?_
  exact ⟨rfl, by go_grown⟩
set_option maxHeartbeats 8000000 in
theorem tune_far (n d a p f i : Int) (h : phV n d a p f = true) (hq : i < -4096 ∨ 4096 < i) (w : World) :
    Calls Try.prog 15 #[.agg #[.int .i64 n, .int .i64 d, .int .i64 a, .int .i64 p, .int .i64 f], .int .i64 i] w fun e w' => e = .returned (.tuple #[.agg #[.int .i64 0, .int .i64 0, .int .i64 0, .int .i64 0, .int .i64 0], .int .i64 2]) ∧ Below w.heap.size w w' := by
  have c1 := hid (fun w => pvalid_any n d a p f w)
  rw [h] at c1
  clear h
  have c2 := hid (fun w => isAdjust_any i w)
  rw [show adjB i = false by unfold adjB; simp; omega] at c2
  clear hq
  go_enter Try.func15, Try.ntmps15
  go_wp2_with fail
  (with_reducible refine (c1.out _).mono ?_); rintro e w1 ⟨rfl, hb⟩; have HL := hid (Lv.kept (by have h := Lv.alloc (vs := [.int .i64 0, .int .i64 0, .int .i64 0, .int .i64 0, .int .i64 0]) (T := 25) (Lv.alloc (vs := [.int .i64 n, .int .i64 d, .int .i64 a, .int .i64 p, .int .i64 f]) (T := 25) (Lv.start w)); simp only [World.size_alloc] at h; exact h : Lv w ((w.alloc (.cells #[.int .i64 n, .int .i64 d, .int .i64 a, .int .i64 p, .int .i64 f] 25)).alloc (.cells #[.int .i64 0, .int .i64 0, .int .i64 0, .int .i64 0, .int .i64 0] 25)) [(w.heap.size + 1, [.int .i64 0, .int .i64 0, .int .i64 0, .int .i64 0, .int .i64 0], 25), (w.heap.size, [.int .i64 n, .int .i64 d, .int .i64 a, .int .i64 p, .int .i64 f], 25)]) hb); clear hb c1
  have hL := HL.out.facts
  simp only [liveAt, cellsAt, and_true, Nat.zero_add, Nat.reduceAdd, World.size_alloc] at hL
  go_wp2_with (go_at_call 32; (with_reducible refine (c2.out _).mono ?_); rintro e w2 ⟨rfl, rfl⟩)
  have hbel := HL.out.below
  refine bodyPost_ret (by simp [results, Try.results15, go_sem, *]; try rfl) rfl ?_
  exact ⟨rfl, by go_grown⟩
set_option maxHeartbeats 8000000 in
theorem tune_bad (n d a p f i : Int) (h : phV n d a p f = false) (w : World) :
    Calls Try.prog 15 #[.agg #[.int .i64 n, .int .i64 d, .int .i64 a, .int .i64 p, .int .i64 f], .int .i64 i] w fun e w' => e = .returned (.tuple #[.agg #[.int .i64 0, .int .i64 0, .int .i64 0, .int .i64 0, .int .i64 0], .int .i64 1]) ∧ Below w.heap.size w w' := by
  have c1 := hid (fun w => pvalid_any n d a p f w)
  rw [h] at c1
  clear h
  go_enter Try.func15, Try.ntmps15
  go_wp2_with fail
  (with_reducible refine (c1.out _).mono ?_); rintro e w1 ⟨rfl, hb⟩; have HL := hid (Lv.kept (by have h := Lv.alloc (vs := [.int .i64 0, .int .i64 0, .int .i64 0, .int .i64 0, .int .i64 0]) (T := 25) (Lv.alloc (vs := [.int .i64 n, .int .i64 d, .int .i64 a, .int .i64 p, .int .i64 f]) (T := 25) (Lv.start w)); simp only [World.size_alloc] at h; exact h : Lv w ((w.alloc (.cells #[.int .i64 n, .int .i64 d, .int .i64 a, .int .i64 p, .int .i64 f] 25)).alloc (.cells #[.int .i64 0, .int .i64 0, .int .i64 0, .int .i64 0, .int .i64 0] 25)) [(w.heap.size + 1, [.int .i64 0, .int .i64 0, .int .i64 0, .int .i64 0, .int .i64 0], 25), (w.heap.size, [.int .i64 n, .int .i64 d, .int .i64 a, .int .i64 p, .int .i64 f], 25)]) hb); clear hb c1
  have hL := HL.out.facts
  simp only [liveAt, cellsAt, and_true, Nat.zero_add, Nat.reduceAdd, World.size_alloc] at hL
  go_wp2_with fail
  have hbel := HL.out.below
  refine bodyPost_ret (by simp [results, Try.results15, go_sem, *]; try rfl) rfl ?_
  exact ⟨rfl, by go_grown⟩
set_option maxHeartbeats 8000000 in
theorem rtune_ok (n d a p f i : Int) (h : phV n d a p f = true) (h1 : -4096 ≤ i) (h2 : i ≤ 4096) (w : World) :
    Calls Try.prog 16 #[.agg #[.int .i64 n, .int .i64 d, .int .i64 a, .int .i64 p, .int .i64 f], .int .i64 i] w fun e w' => e = .returned (.tuple #[.agg #[.int .i64 n, .int .i64 d, .int .i64 i, .int .i64 p, .int .i64 f], .int .i64 0]) ∧ Below w.heap.size w w' := by
  have c1 := hid (fun w => rvalid_any n d a p f w)
  rw [h] at c1
  clear h
  have z1 : ¬ (i < -4096) := by omega
  have z2 : ¬ (4096 < i) := by omega
  clear h1 h2
  go_enter Try.func16, Try.ntmps16
  go_wp2_with fail
  (with_reducible refine (c1.out _).mono ?_); rintro e w1 ⟨rfl, hb⟩; have HL := hid (Lv.kept (by have h := Lv.alloc (vs := [.int .i64 0, .int .i64 0, .int .i64 0, .int .i64 0, .int .i64 0]) (T := 25) (Lv.alloc (vs := [.int .i64 n, .int .i64 d, .int .i64 a, .int .i64 p, .int .i64 f]) (T := 25) (Lv.start w)); simp only [World.size_alloc] at h; exact h : Lv w ((w.alloc (.cells #[.int .i64 n, .int .i64 d, .int .i64 a, .int .i64 p, .int .i64 f] 25)).alloc (.cells #[.int .i64 0, .int .i64 0, .int .i64 0, .int .i64 0, .int .i64 0] 25)) [(w.heap.size + 1, [.int .i64 0, .int .i64 0, .int .i64 0, .int .i64 0, .int .i64 0], 25), (w.heap.size, [.int .i64 n, .int .i64 d, .int .i64 a, .int .i64 p, .int .i64 f], 25)]) hb); clear hb c1
  have hL := HL.out.facts
  simp only [liveAt, cellsAt, and_true, Nat.zero_add, Nat.reduceAdd, World.size_alloc] at hL
  go_wp2_with fail
  have hbel := HL.out.below
  refine bodyPost_ret (by simp [results, Try.results16, go_sem, *]; try rfl) rfl ?_
  exact ⟨rfl, by go_grown⟩
set_option maxHeartbeats 8000000 in
theorem rtune_far (n d a p f i : Int) (h : phV n d a p f = true) (hq : i < -4096 ∨ 4096 < i) (w : World) :
    Calls Try.prog 16 #[.agg #[.int .i64 n, .int .i64 d, .int .i64 a, .int .i64 p, .int .i64 f], .int .i64 i] w fun e w' => e = .returned (.tuple #[.agg #[.int .i64 0, .int .i64 0, .int .i64 0, .int .i64 0, .int .i64 0], .int .i64 2]) ∧ Below w.heap.size w w' := by
  have c1 := hid (fun w => rvalid_any n d a p f w)
  rw [h] at c1
  clear h
  rcases hq with hq | hq
  · go_enter Try.func16, Try.ntmps16
    go_wp2_with fail
    (with_reducible refine (c1.out _).mono ?_); rintro e w1 ⟨rfl, hb⟩; have HL := hid (Lv.kept (by have h := Lv.alloc (vs := [.int .i64 0, .int .i64 0, .int .i64 0, .int .i64 0, .int .i64 0]) (T := 25) (Lv.alloc (vs := [.int .i64 n, .int .i64 d, .int .i64 a, .int .i64 p, .int .i64 f]) (T := 25) (Lv.start w)); simp only [World.size_alloc] at h; exact h : Lv w ((w.alloc (.cells #[.int .i64 n, .int .i64 d, .int .i64 a, .int .i64 p, .int .i64 f] 25)).alloc (.cells #[.int .i64 0, .int .i64 0, .int .i64 0, .int .i64 0, .int .i64 0] 25)) [(w.heap.size + 1, [.int .i64 0, .int .i64 0, .int .i64 0, .int .i64 0, .int .i64 0], 25), (w.heap.size, [.int .i64 n, .int .i64 d, .int .i64 a, .int .i64 p, .int .i64 f], 25)]) hb); clear hb c1
    have hL := HL.out.facts
    simp only [liveAt, cellsAt, and_true, Nat.zero_add, Nat.reduceAdd, World.size_alloc] at hL
    go_wp2_with fail
    have hbel := HL.out.below
    refine bodyPost_ret (by simp [results, Try.results16, go_sem, *]; try rfl) rfl ?_
    exact ⟨rfl, by go_grown⟩
  · have hq2 : ¬ (i < -4096) := by omega
    go_enter Try.func16, Try.ntmps16
    go_wp2_with fail
    (with_reducible refine (c1.out _).mono ?_); rintro e w1 ⟨rfl, hb⟩; have HL := hid (Lv.kept (by have h := Lv.alloc (vs := [.int .i64 0, .int .i64 0, .int .i64 0, .int .i64 0, .int .i64 0]) (T := 25) (Lv.alloc (vs := [.int .i64 n, .int .i64 d, .int .i64 a, .int .i64 p, .int .i64 f]) (T := 25) (Lv.start w)); simp only [World.size_alloc] at h; exact h : Lv w ((w.alloc (.cells #[.int .i64 n, .int .i64 d, .int .i64 a, .int .i64 p, .int .i64 f] 25)).alloc (.cells #[.int .i64 0, .int .i64 0, .int .i64 0, .int .i64 0, .int .i64 0] 25)) [(w.heap.size + 1, [.int .i64 0, .int .i64 0, .int .i64 0, .int .i64 0, .int .i64 0], 25), (w.heap.size, [.int .i64 n, .int .i64 d, .int .i64 a, .int .i64 p, .int .i64 f], 25)]) hb); clear hb c1
    have hL := HL.out.facts
    simp only [liveAt, cellsAt, and_true, Nat.zero_add, Nat.reduceAdd, World.size_alloc] at hL
    go_wp2_with fail
    have hbel := HL.out.below
    refine bodyPost_ret (by simp [results, Try.results16, go_sem, *]; try rfl) rfl ?_
    exact ⟨rfl, by go_grown⟩
set_option maxHeartbeats 8000000 in
theorem rtune_bad (n d a p f i : Int) (h : phV n d a p f = false) (w : World) :
    Calls Try.prog 16 #[.agg #[.int .i64 n, .int .i64 d, .int .i64 a, .int .i64 p, .int .i64 f], .int .i64 i] w fun e w' => e = .returned (.tuple #[.agg #[.int .i64 0, .int .i64 0, .int .i64 0, .int .i64 0, .int .i64 0], .int .i64 1]) ∧ Below w.heap.size w w' := by
  have c1 := hid (fun w => rvalid_any n d a p f w)
  rw [h] at c1
  clear h
  go_enter Try.func16, Try.ntmps16
  go_wp2_with fail
  (with_reducible refine (c1.out _).mono ?_); rintro e w1 ⟨rfl, hb⟩; have HL := hid (Lv.kept (by have h := Lv.alloc (vs := [.int .i64 0, .int .i64 0, .int .i64 0, .int .i64 0, .int .i64 0]) (T := 25) (Lv.alloc (vs := [.int .i64 n, .int .i64 d, .int .i64 a, .int .i64 p, .int .i64 f]) (T := 25) (Lv.start w)); simp only [World.size_alloc] at h; exact h : Lv w ((w.alloc (.cells #[.int .i64 n, .int .i64 d, .int .i64 a, .int .i64 p, .int .i64 f] 25)).alloc (.cells #[.int .i64 0, .int .i64 0, .int .i64 0, .int .i64 0, .int .i64 0] 25)) [(w.heap.size + 1, [.int .i64 0, .int .i64 0, .int .i64 0, .int .i64 0, .int .i64 0], 25), (w.heap.size, [.int .i64 n, .int .i64 d, .int .i64 a, .int .i64 p, .int .i64 f], 25)]) hb); clear hb c1
  have hL := HL.out.facts
  simp only [liveAt, cellsAt, and_true, Nat.zero_add, Nat.reduceAdd, World.size_alloc] at hL
  go_wp2_with fail
  have hbel := HL.out.below
  refine bodyPost_ret (by simp [results, Try.results16, go_sem, *]; try rfl) rfl ?_
  exact ⟨rfl, by go_grown⟩
end Go.Proofs.Ytmgkbgnjpgkdiaa
