/- Ramps of the reference, and new targets: no statement is proved here. -/
import Derived.Test.YtndppaldjfggbaaGain
import Derived.Test.YtndppaldjfggbaaLive
import Derived.Deep.RegionHeld3
import Derived.Deep.DeepCutAuto
import Derived.Handy
namespace Go.Proofs.Ytndppaldjfggbaa
open Go.ChangeShapes Go.WideShapes Go.ChangeAt Go.RowKit
set_option linter.unusedVariables false
set_option linter.unusedSimpArgs false

set_option maxHeartbeats 4000000 in
theorem rvalid_any (f t n a : Int) (w : World) : Calls Try.prog 27 #[.agg #[.int .i64 f, .int .i64 t, .int .i64 n, .int .i64 a]] w fun e w' => e = .returned (.bool (validG f t n a)) ∧ Below w.heap.size w w' := by
  go_enter Try.func27, Try.ntmps27
  go_wp2_with (go_at_call 39; refine (rgain_any _ _).mono ?_; rintro e w' ⟨rfl, rfl⟩)
  all_goals (go_ret; exact ⟨ret_b (by unfold validG; simp [*]; try omega), (Below.refl _ _).alloc (Nat.le_refl _) _⟩)
set_option maxHeartbeats 4000000 in
theorem rfloor_q (n b : Int) (hb : 0 < b) (hb2 : b ≤ 1099511627776) (h1 : -1125899906842624 ≤ n) (h2 : n ≤ 1125899906842624) (w : World) :
    Calls Try.prog 42 #[.int .i64 n, .int .i64 b] w fun e w' => e = .returned (.int .i64 (n / b)) ∧ w = w' := by
  have hf := hid (floor_eq (n := n) hb)
  have hd := hid (div_bd hb (n := n) (c := 1125899906842624) h1 h2)
  have hb0 : (b == 0) = false := by rw [beq_eq_false_iff_ne]; omega
  have hbne : ¬ b = 0 := by omega
  by_cases ht : n.tmod b < 0
  · have hdt : n.tdiv b = n / b + 1 := by have := hf.out.1 ht; omega
    have HD := hid hdt
    clear hdt
    go_enter Try.func42, Try.ntmps42
    go_wp2
    go_ret
    exact ⟨ret_int (by rw [HD.out, w64 (by have := hd.out; omega) (by have := hd.out; omega)]; omega), rfl⟩
  · go_enter Try.func42, Try.ntmps42
    go_wp2
    go_ret
    exact ⟨ret_int (by rw [hf.out.2 (by omega)]), rfl⟩
set_option maxHeartbeats 4000000 in
theorem rat_any (f t n a i : Int) (hi2 : i ≤ 9223372036854775807) (w : World) :
    Calls Try.prog 23 #[.agg #[.int .i64 f, .int .i64 t, .int .i64 n, .int .i64 a], .int .i64 i] w fun e w' => e = .returned (.int .i64 (atAny f t n a i)) ∧ Below w.heap.size w w' := by
  have cv := hid (fun w => rvalid_any f t n a w)
  have HL0 := hid (Lv.alloc (vs := [.int .i64 f, .int .i64 t, .int .i64 n, .int .i64 a]) (T := 31) (Lv.start w))
  unfold atAny
  cases hv : validG f t n a
  · rw [if_neg (by simp)]
    rw [hv] at cv
    go_enter Try.func23, Try.ntmps23
    go_wp2_with (go_at_call 27; (with_reducible refine (cv.out _).mono ?_); rintro e w1 ⟨rfl, hb⟩; have HL1 := hid (HL0.out.kept hb); clear hb)
    go_ret
    exact ⟨rfl, HL1.out.below⟩
  · obtain ⟨⟨f1, f2⟩, ⟨t1, t2⟩, n1, n2, a1, a2⟩ := validG_iff.1 hv
    rw [hv] at cv
    by_cases hi : 0 ≤ i
    · rw [if_pos ⟨rfl, hi⟩]
      have hib : decide (i < 0) = false := decide_eq_false (by omega)
      unfold atG
      by_cases h : n - a ≤ i
      · rw [if_pos h]
        have hb2 : decide (n - a ≤ i) = true := decide_eq_true h
        go_enter Try.func23, Try.ntmps23
        go_wp2_with (go_at_call 27; (with_reducible refine (cv.out _).mono ?_); rintro e w1 ⟨rfl, hb⟩; have HL1 := hid (HL0.out.kept hb); clear hb; have hL := HL1.out.facts; simp only [liveAt, cellsAt, and_true, Nat.zero_add, Nat.reduceAdd, World.size_alloc] at hL)
        go_ret
        exact ⟨rfl, HL1.out.below⟩
      · rw [if_neg h]
        have hb2 : decide (n - a ≤ i) = false := decide_eq_false h
        obtain ⟨p1, p2⟩ := prod_bd (s := t - f) (g := a + i) (a := 262144) (b := 4194304) (c := 1099511627776) (by omega) (by omega) (by omega) (by omega) (by omega) (by omega)
        obtain ⟨d1, d2⟩ := div_bd (n := (t - f) * (a + i)) (b := n) (c := 1099511627776) (by omega) (by omega) (by omega)
        have cf := hid (fun w => rfloor_q ((t - f) * (a + i)) n (by omega) (by omega) (by omega) (by omega) w)
        have q1 : IntKind.i64.wrap (t - f) = t - f := IntWalk.i64_in _ (by omega)
        have q2 : IntKind.i64.wrap (a + i) = a + i := IntWalk.i64_in _ (by omega)
        have q3 : IntKind.i64.wrap ((t - f) * (a + i)) = (t - f) * (a + i) := IntWalk.i64_in _ (by omega)
        generalize (t - f) * (a + i) / n = Q at *
        have q4 : IntKind.i64.wrap (f + Q) = f + Q := IntWalk.i64_in _ (by omega)
        clear p1 p2
        go_enter Try.func23, Try.ntmps23
        go_wp2_with (go_at_call 27; (with_reducible refine (cv.out _).mono ?_); rintro e w1 ⟨rfl, hb⟩; have HL1 := hid (HL0.out.kept hb); clear hb; have hL := HL1.out.facts; simp only [liveAt, cellsAt, and_true, Nat.zero_add, Nat.reduceAdd, World.size_alloc] at hL)
        go_quiet ((go_at_call 42; exact Calls.quiet_of_same ((cf.out _).mono fun e w' h => ⟨h.1, h.2.symm⟩)))
        go_wp2
        go_ret
        exact ⟨rfl, HL1.out.drewN.below⟩
    · rw [if_neg (fun k => hi k.2)]
      have hib : decide (i < 0) = true := decide_eq_true (by omega)
      go_enter Try.func23, Try.ntmps23
      go_wp2_with (go_at_call 27; (with_reducible refine (cv.out _).mono ?_); rintro e w1 ⟨rfl, hb⟩; have HL1 := hid (HL0.out.kept hb); clear hb)
      go_ret
      exact ⟨rfl, HL1.out.below⟩
/-- a new target: the ramp's numbers and the error -/
def retG (f t n a tg fr : Int) : (Int × Int × Int × Int) × Int := if validG f t n a = true ∧ gainB tg = true ∧ 0 ≤ fr ∧ fr ≤ 4194304 then ((atAny f t n a 0, tg, fr, 0), 0) else ((0, 0, 0, 0), 1)
set_option maxRecDepth 100000 in
set_option maxHeartbeats 8000000 in
theorem ret_any (f t n a tg fr : Int) (w : World) :
    Calls Try.prog 24 #[.agg #[.int .i64 f, .int .i64 t, .int .i64 n, .int .i64 a], .int .i64 tg, .int .i64 fr] w fun e w' => e = .returned (.tuple #[.agg #[.int .i64 (retG f t n a tg fr).1.1, .int .i64 (retG f t n a tg fr).1.2.1, .int .i64 (retG f t n a tg fr).1.2.2.1, .int .i64 (retG f t n a tg fr).1.2.2.2], .int .i64 (retG f t n a tg fr).2]) ∧ Below w.heap.size w w' := by
  have cv := hid (fun w => valid_any f t n a w)
  have cg := hid (fun w => isGain_any tg w)
  have ca := hid (fun w => at_any f t n a 0 (by omega) w)
  have hl0 := Lv.alloc (vs := [.int .i64 0, .int .i64 0, .int .i64 0, .int .i64 0]) (T := 31) (Lv.alloc (vs := [.int .i64 f, .int .i64 t, .int .i64 n, .int .i64 a]) (T := 31) (Lv.start w))
  simp only [World.size_alloc] at hl0
  have HL0 := hid hl0
  clear hl0
  by_cases hok : validG f t n a = true ∧ gainB tg = true ∧ 0 ≤ fr ∧ fr ≤ 4194304
  · rw [show retG f t n a tg fr = ((atAny f t n a 0, tg, fr, 0), 0) from if_pos hok]
    obtain ⟨h1, h2, h3, h4⟩ := hok
    rw [h1] at cv
    rw [h2] at cg
    generalize atAny f t n a 0 = A at *
    have z1 : decide (fr < 0) = false := decide_eq_false (by omega)
    have z2 : decide (4194304 < fr) = false := decide_eq_false (by omega)
    clear h1 h2
    go_enter Try.func24, Try.ntmps24
    go_wp2_with (first
      | (go_at_call 26; (with_reducible refine (cv.out _).mono ?_); rintro e w1 ⟨rfl, hb⟩; have HL1 := hid (HL0.out.kept hb); clear hb; have hL := HL1.out.facts; simp only [liveAt, cellsAt, and_true, Nat.zero_add, Nat.reduceAdd, World.size_alloc] at hL)
      | (go_at_call 37; (with_reducible refine (cg.out _).mono ?_); rintro e w2 ⟨rfl, rfl⟩)
      | (go_at_call 22; (with_reducible refine (ca.out _).mono ?_); rintro e w3 ⟨rfl, hb⟩; have HL2 := hid (HL1.out.kept hb); clear hb hL; have hL := HL2.out.facts; simp only [liveAt, cellsAt, and_true, Nat.zero_add, Nat.reduceAdd, World.size_alloc] at hL))
    have hbel := HL2.out.below
    refine bodyPost_ret (by simp [results, Try.results24, go_sem, *]; try rfl) rfl ?_
    exact ⟨rfl, by go_grown⟩
  · rw [show retG f t n a tg fr = ((0, 0, 0, 0), 1) from if_neg hok]
    have HX := hid hok
    generalize hV : validG f t n a = V at *
    generalize hG : gainB tg = G at *
    have HV := hid hV
    have HG := hid hG
    clear hok ca hV hG
    cases V
    · go_enter Try.func24, Try.ntmps24
      go_wp2_with (first
      | (go_at_call 26; (with_reducible refine (cv.out _).mono ?_); rintro e w1 ⟨rfl, hb⟩; have HL1 := hid (HL0.out.kept hb); clear hb; have hL := HL1.out.facts; simp only [liveAt, cellsAt, and_true, Nat.zero_add, Nat.reduceAdd, World.size_alloc] at hL)
      | (go_at_call 37; (with_reducible refine (cg.out _).mono ?_); rintro e w2 ⟨rfl, rfl⟩))
      have hbel := HL1.out.below
      refine bodyPost_ret (by simp [results, Try.results24, go_sem, *]; try rfl) rfl ?_
      exact ⟨rfl, by go_grown⟩
    · cases G
      · go_enter Try.func24, Try.ntmps24
        go_wp2_with (first
      | (go_at_call 26; (with_reducible refine (cv.out _).mono ?_); rintro e w1 ⟨rfl, hb⟩; have HL1 := hid (HL0.out.kept hb); clear hb; have hL := HL1.out.facts; simp only [liveAt, cellsAt, and_true, Nat.zero_add, Nat.reduceAdd, World.size_alloc] at hL)
      | (go_at_call 37; (with_reducible refine (cg.out _).mono ?_); rintro e w2 ⟨rfl, rfl⟩))
        have hbel := HL1.out.below
        refine bodyPost_ret (by simp [results, Try.results24, go_sem, *]; try rfl) rfl ?_
        exact ⟨rfl, by go_grown⟩
      · have hfr : fr < 0 ∨ 4194304 < fr := by
          have := HX.out
          simp at this
          omega
        rcases hfr with hfr | hfr
        all_goals
          go_enter Try.func24, Try.ntmps24
          go_wp2_with (first
      | (go_at_call 26; (with_reducible refine (cv.out _).mono ?_); rintro e w1 ⟨rfl, hb⟩; have HL1 := hid (HL0.out.kept hb); clear hb; have hL := HL1.out.facts; simp only [liveAt, cellsAt, and_true, Nat.zero_add, Nat.reduceAdd, World.size_alloc] at hL)
      | (go_at_call 37; (with_reducible refine (cg.out _).mono ?_); rintro e w2 ⟨rfl, rfl⟩))
          have hbel := HL1.out.below
          refine bodyPost_ret (by simp [results, Try.results24, go_sem, *]; try rfl) rfl ?_
          exact ⟨rfl, by go_grown⟩
set_option maxRecDepth 100000 in
set_option maxHeartbeats 8000000 in
theorem rret_any (f t n a tg fr : Int) (w : World) :
    Calls Try.prog 25 #[.agg #[.int .i64 f, .int .i64 t, .int .i64 n, .int .i64 a], .int .i64 tg, .int .i64 fr] w fun e w' => e = .returned (.tuple #[.agg #[.int .i64 (retG f t n a tg fr).1.1, .int .i64 (retG f t n a tg fr).1.2.1, .int .i64 (retG f t n a tg fr).1.2.2.1, .int .i64 (retG f t n a tg fr).1.2.2.2], .int .i64 (retG f t n a tg fr).2]) ∧ Below w.heap.size w w' := by
  have cv := hid (fun w => rvalid_any f t n a w)
  have cg := hid (fun w => rgain_any tg w)
  have ca := hid (fun w => rat_any f t n a 0 (by omega) w)
  have hl0 := Lv.alloc (vs := [.int .i64 0, .int .i64 0, .int .i64 0, .int .i64 0]) (T := 31) (Lv.alloc (vs := [.int .i64 f, .int .i64 t, .int .i64 n, .int .i64 a]) (T := 31) (Lv.start w))
  simp only [World.size_alloc] at hl0
  have HL0 := hid hl0
  clear hl0
  by_cases hok : validG f t n a = true ∧ gainB tg = true ∧ 0 ≤ fr ∧ fr ≤ 4194304
  · rw [show retG f t n a tg fr = ((atAny f t n a 0, tg, fr, 0), 0) from if_pos hok]
    obtain ⟨h1, h2, h3, h4⟩ := hok
    rw [h1] at cv
    rw [h2] at cg
    generalize atAny f t n a 0 = A at *
    have z1 : decide (fr < 0) = false := decide_eq_false (by omega)
    have z2 : decide (4194304 < fr) = false := decide_eq_false (by omega)
    clear h1 h2
    go_enter Try.func25, Try.ntmps25
    go_wp2_with (first
      | (go_at_call 27; (with_reducible refine (cv.out _).mono ?_); rintro e w1 ⟨rfl, hb⟩; have HL1 := hid (HL0.out.kept hb); clear hb; have hL := HL1.out.facts; simp only [liveAt, cellsAt, and_true, Nat.zero_add, Nat.reduceAdd, World.size_alloc] at hL)
      | (go_at_call 39; (with_reducible refine (cg.out _).mono ?_); rintro e w2 ⟨rfl, rfl⟩)
      | (go_at_call 23; (with_reducible refine (ca.out _).mono ?_); rintro e w3 ⟨rfl, hb⟩; have HL2 := hid (HL1.out.kept hb); clear hb hL; have hL := HL2.out.facts; simp only [liveAt, cellsAt, and_true, Nat.zero_add, Nat.reduceAdd, World.size_alloc] at hL))
    have hbel := HL2.out.below
    refine bodyPost_ret (by simp [results, Try.results25, go_sem, *]; try rfl) rfl ?_
    exact ⟨rfl, by go_grown⟩
  · rw [show retG f t n a tg fr = ((0, 0, 0, 0), 1) from if_neg hok]
    have HX := hid hok
    generalize hV : validG f t n a = V at *
    generalize hG : gainB tg = G at *
    have HV := hid hV
    have HG := hid hG
    clear hok ca hV hG
    cases V
    · go_enter Try.func25, Try.ntmps25
      go_wp2_with (first
      | (go_at_call 27; (with_reducible refine (cv.out _).mono ?_); rintro e w1 ⟨rfl, hb⟩; have HL1 := hid (HL0.out.kept hb); clear hb; have hL := HL1.out.facts; simp only [liveAt, cellsAt, and_true, Nat.zero_add, Nat.reduceAdd, World.size_alloc] at hL)
      | (go_at_call 39; (with_reducible refine (cg.out _).mono ?_); rintro e w2 ⟨rfl, rfl⟩))
      have hbel := HL1.out.below
      refine bodyPost_ret (by simp [results, Try.results25, go_sem, *]; try rfl) rfl ?_
      exact ⟨rfl, by go_grown⟩
    · cases G
      · go_enter Try.func25, Try.ntmps25
        go_wp2_with (first
      | (go_at_call 27; (with_reducible refine (cv.out _).mono ?_); rintro e w1 ⟨rfl, hb⟩; have HL1 := hid (HL0.out.kept hb); clear hb; have hL := HL1.out.facts; simp only [liveAt, cellsAt, and_true, Nat.zero_add, Nat.reduceAdd, World.size_alloc] at hL)
      | (go_at_call 39; (with_reducible refine (cg.out _).mono ?_); rintro e w2 ⟨rfl, rfl⟩))
        have hbel := HL1.out.below
        refine bodyPost_ret (by simp [results, Try.results25, go_sem, *]; try rfl) rfl ?_
        exact ⟨rfl, by go_grown⟩
      · have hfr : fr < 0 ∨ 4194304 < fr := by
          have := HX.out
          simp at this
          omega
        rcases hfr with hfr | hfr
        all_goals
          go_enter Try.func25, Try.ntmps25
          go_wp2_with (first
      | (go_at_call 27; (with_reducible refine (cv.out _).mono ?_); rintro e w1 ⟨rfl, hb⟩; have HL1 := hid (HL0.out.kept hb); clear hb; have hL := HL1.out.facts; simp only [liveAt, cellsAt, and_true, Nat.zero_add, Nat.reduceAdd, World.size_alloc] at hL)
      | (go_at_call 39; (with_reducible refine (cg.out _).mono ?_); rintro e w2 ⟨rfl, rfl⟩))
          have hbel := HL1.out.below
          refine bodyPost_ret (by simp [results, Try.results25, go_sem, *]; try rfl) rfl ?_
          exact ⟨rfl, by go_grown⟩
end Go.Proofs.Ytndppaldjfggbaa
