/- Blocks of one channel, and where a ramp is afterwards. No statement is proved here. -/
import Derived.Test.YtndppaldjfggbaaGainRamps
namespace Go.Proofs.Ytndppaldjfggbaa
open Go.ChangeShapes Go.WideShapes Go.ChangeAt Go.RowKit
set_option linter.unusedVariables false
set_option linter.unusedSimpArgs false

theorem ssample_any (n : Int) (w : World) : Calls Try.prog 52 #[.int .i32 n] w fun e w' => e = .returned (.bool (sampleB n)) ∧ w = w' := by
  go_enter Try.func52, Try.ntmps52
  go_wp2
  all_goals (go_ret; exact ⟨ret_b (by unfold sampleB; rw [Bool.eq_iff_iff]; simp; try omega), rfl⟩)
theorem ended_any (a n i : Int) (ha : 0 ≤ a) (han : a ≤ n) (hn : n ≤ 4194304) (w : World) :
    Calls Try.prog 50 #[.agg #[.int .i64 a, .int .i64 n], .int .i64 i] w fun e w' => e = .returned (.bool (decide (n - a ≤ i))) ∧ Below w.heap.size w w' := by
  have u : IntKind.i64.wrap (n - a) = n - a := IntWalk.i64_in _ (by omega)
  go_enter Try.func50, Try.ntmps50
  go_wp2
  go_ret
  exact ⟨rfl, by go_grown⟩
def aftG (a n i : Int) : Int := if n - a ≤ i then n else a + i
theorem after_any (a n i : Int) (ha : 0 ≤ a) (han : a ≤ n) (hn : n ≤ 4194304) (hi : 0 ≤ i) (hi2 : i ≤ 4194304) (w : World) :
    Calls Try.prog 45 #[.agg #[.int .i64 a, .int .i64 n], .int .i64 i] w fun e w' => e = .returned (.agg #[.int .i64 (aftG a n i), .int .i64 n]) ∧ Below w.heap.size w w' := by
  have c := hid (fun w => ended_any a n i ha han hn w)
  have u : IntKind.i64.wrap (a + i) = a + i := IntWalk.i64_in _ (by omega)
  have hl0 := Lv.alloc (vs := [.int .i64 0, .int .i64 0]) (T := 68) (Lv.alloc (vs := [.int .i64 a, .int .i64 n]) (T := 68) (Lv.start w))
  simp only [World.size_alloc] at hl0
  have HL0 := hid hl0
  clear hl0
  unfold aftG
  by_cases h : n - a ≤ i
  · rw [if_pos h]
    rw [decide_eq_true h] at c
    clear h
    go_enter Try.func45, Try.ntmps45
    go_wp2_with fail
    (with_reducible refine (c.out _).mono ?_); rintro e w1 ⟨rfl, hb⟩; have HL1 := hid (HL0.out.kept hb); clear hb
    have hL := HL1.out.facts
    simp only [liveAt, cellsAt, and_true, Nat.zero_add, Nat.reduceAdd, World.size_alloc] at hL
    go_wp2_with fail
    have hbel := HL1.out.below
    refine bodyPost_ret (by simp [results, Try.results45, go_sem, *]; try rfl) rfl ?_
    exact ⟨rfl, by go_grown⟩
  · rw [if_neg h]
    rw [decide_eq_false h] at c
    clear h
    go_enter Try.func45, Try.ntmps45
    go_wp2_with fail
    (with_reducible refine (c.out _).mono ?_); rintro e w1 ⟨rfl, hb⟩; have HL1 := hid (HL0.out.kept hb); clear hb
    have hL := HL1.out.facts
    simp only [liveAt, cellsAt, and_true, Nat.zero_add, Nat.reduceAdd, World.size_alloc] at hL
    go_wp2_with fail
    have hbel := HL1.out.below
    refine bodyPost_ret (by simp [results, Try.results45, go_sem, *]; try rfl) rfl ?_
    exact ⟨rfl, by go_grown⟩
set_option maxHeartbeats 4000000 in
theorem svalid_any (w : World) (b off n cap : Nat) (l : List Int) (hs : Sl .i32 w (some ⟨b, off, none⟩) n cap l) (hn : n ≤ 65536) (hl : ∀ k, k < n → sampleB (l.getD k 0) = true) :
    Calls Try.prog 44 #[.agg #[.int .i64 1, .slice (some ⟨b, off, none⟩) n cap]] w fun e w' => e = .returned (.bool true) ∧ Below w.heap.size w w' := by
  have HS := hid hs
  have HB := hid hl
  have hcap : n ≤ cap := hs.2.1
  have hcm : cap ≤ 9223372036854775807 := by have := hs.2.2.1; unfold maxLen at this; omega
  have HL0 := hid (Lv.alloc (vs := [.int .i64 1, .slice (some ⟨b, off, none⟩) n cap]) (T := 44) (Lv.start w))
  have e1 : (n : Int).tmod 1 = 0 := Int.tmod_one _
  have e2 : (n : Int).tdiv 1 = n := Int.tdiv_one _
  clear hs hl
  go_enter Try.func44, Try.ntmps44
  go_wp2_with fail
  go_loopw [34] (fun v wr => ∃ x : Nat, x ≤ n ∧ v = .int .i64 x ∧ Hid (Lv w wr [(w.heap.size, [.int .i64 1, .slice (some ⟨b, off, none⟩) n cap], 44)])) (fun v _ => n - (intOf v).toNat)
  case atStart => exact ⟨0, by omega, rfl, HL0⟩
  case round =>
    obtain ⟨x, hx, rfl, hl⟩ := hrel
    clear HL0
    obtain ⟨wo, rfl⟩ : ∃ wo : World, wo = wr := ⟨_, rfl⟩
    by_cases hlt : x < n
    · have hkb : decide ((x : Int) < (n : Int)) = true := by simp; omega
      have hxz : (x : Int) < (n : Int) := by omega
      have h6 := (HS.out.below hl.out.below).2.2.2.2.2
      rcases h6 with h6 | ⟨b', off', he, hbl, hc⟩
      · omega
      · cases he
        have g0 := hc x hlt
        have hv := HB.out x hlt
        generalize l.getD x 0 = v at *
        have c1 := hid (fun w => ssample_any v w)
        rw [hv] at c1
        have HC := hid hc
        clear hc hv
        go_wp2_with (go_at_call 52; (with_reducible refine (c1.out _).mono ?_); rintro e w8 ⟨rfl, rfl⟩)
        go_roundw
        case rel => first | exact ⟨x + 1, by omega, by go_num, hl⟩ | ((repeat apply Exists.intro); exact ⟨⟨x + 1, by omega, by go_num, hl⟩, rfl⟩)
        case measure => simp [intOf]; omega
    · have hkb : decide ((x : Int) < (n : Int)) = false := by simp; omega
      go_wp2_with fail
      go_ret
      exact ⟨rfl, hl.out.below⟩
end Go.Proofs.Ytndppaldjfggbaa
