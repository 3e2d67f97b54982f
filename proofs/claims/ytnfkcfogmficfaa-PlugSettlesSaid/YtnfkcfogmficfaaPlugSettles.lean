/- PlugSettles: the walk. -/
import Derived.Test.YtnfkcfogmficfaaPlugUn
namespace Go.Proofs.Ytnfkcfogmficfaa
open Go.ChangeShapes Go.WideShapes Go.ChangeAt Go.RowKit
set_option linter.unusedVariables false
set_option linter.unusedSimpArgs false

set_option maxRecDepth 100000 in
set_option maxHeartbeats 16000000 in
theorem plugSettles_walk (s0 a0 y0 g0 : Int) (w : World) :
    Calls Try.prog 9 #[.int .i64 s0, .int .i64 a0, .int .i64 y0, .int .i64 g0] w fun e w' => e = .returned (.bool true) ∧ Below w.heap.size w w' := by
  have c1 := hid (fun w => mod_any s0 6 (by omega) (by omega) w)
  have c2 := hid (fun w => mod_any a0 20 (by omega) (by omega) w)
  have c3 := hid (fun w => mod_any y0 9 (by omega) (by omega) w)
  have c4 := hid (fun w => mod_any g0 5 (by omega) (by omega) w)
  have m1 := Int.emod_nonneg s0 (show (6 : Int) ≠ 0 by omega)
  have m2 := Int.emod_lt_of_pos s0 (show (0 : Int) < 6 by omega)
  have m3 := Int.emod_nonneg a0 (show (20 : Int) ≠ 0 by omega)
  have m4 := Int.emod_lt_of_pos a0 (show (0 : Int) < 20 by omega)
  have m5 := Int.emod_nonneg y0 (show (9 : Int) ≠ 0 by omega)
  have m6 := Int.emod_lt_of_pos y0 (show (0 : Int) < 9 by omega)
  have m7 := Int.emod_nonneg g0 (show (5 : Int) ≠ 0 by omega)
  have m8 := Int.emod_lt_of_pos g0 (show (0 : Int) < 5 by omega)
  generalize s0 % 6 = S at *
  generalize a0 % 20 = A at *
  generalize y0 % 9 = Y at *
  generalize g0 % 5 = G at *
  have cp := hid (fun w => plug0_any S 4 A m1 (by omega) (by omega) m3 (by omega) w)
  go_enter Try.func9, Try.ntmps9
  go_wp2_with (first
    | (go_at_call 27; (with_reducible refine (sane33_any _).mono ?_); rintro e w1 ⟨rfl, hb⟩; have HL := hid ((Lv.start w).kept hb); clear hb)
    | (go_at_call 15; (with_reducible refine (c1.out _).mono ?_); rintro e w2 ⟨rfl, rfl⟩)
    | (go_at_call 15; (with_reducible refine (c2.out _).mono ?_); rintro e w2 ⟨rfl, rfl⟩)
    | (go_at_call 15; (with_reducible refine (c3.out _).mono ?_); rintro e w2 ⟨rfl, rfl⟩)
    | (go_at_call 15; (with_reducible refine (c4.out _).mono ?_); rintro e w2 ⟨rfl, rfl⟩))
  clear c1 c2 c3 c4
  (with_reducible refine (cp.out _).mono ?_); rintro e w3 ⟨⟨v, rfl, ho⟩, hb⟩; have HL1 := hid (Lv.alloc (vs := [.int .i64 S, v]) (T := 57) (HL.out.kept hb)); have HO1 := hid (One.kept (w' := w3.alloc (.cells #[.int .i64 S, v] 57)) ho (by go_grown)); clear hb ho cp HL
  obtain ⟨g, cap, rfl, _, _, _, _, _, _⟩ := HO1.out.facts
  go_wp2_with fail
  generalize w1.heap.size = B0 at *
  generalize w3.alloc _ = W4 at *
  generalize w3.heap.size = B1 at *
  go_loopw [11] (fun i wr => ∃ k : Nat, (k : Int) ≤ Y + 1 ∧ i = .int .i64 (A + k) ∧ Hid (One wr B0 (.slice (some ⟨g, 0, none⟩) 1 cap) 4 A) ∧ Hid (Lv w wr [(B1, [.int .i64 S, .slice (some ⟨g, 0, none⟩) 1 cap], 57)])) (fun i _ => (A + Y + 1 - intOf i).toNat)
  case atStart => exact ⟨0, by omega, by congr 1; omega, HO1, HL1⟩
  case round =>
    obtain ⟨k, hk, rfl, ho, hl⟩ := hrel
    clear HO1 HL1
    have hL := hl.out.facts
    simp only [liveAt, cellsAt, and_true, Nat.zero_add, Nat.reduceAdd, World.size_alloc] at hL
    by_cases hlt : (k : Int) ≤ Y
    · have hkb : decide (A + (k : Int) ≤ A + Y) = true := decide_eq_true (by omega)
      have cr := hid (fun w h => ready1_any S B0 (.slice (some ⟨g, 0, none⟩) 1 cap) 4 A (A + k) m1 (by omega) (by omega) m3 (by omega) (by omega) (by omega) w h)
      by_cases hr : A ≤ A + k - S
      all_goals
        first
          | (rw [if_pos hr] at cr; have d1 : decide (A + S ≤ A + (k : Int)) = true := decide_eq_true (by omega); have d2 : decide (S ≤ (k : Int)) = true := decide_eq_true (by omega); have d3 : S ≤ (k : Int) := by omega)
          | (rw [if_neg hr] at cr; have d1 : decide (A + S ≤ A + (k : Int)) = false := decide_eq_false (by omega); have d2 : decide (S ≤ (k : Int)) = false := decide_eq_false (by omega); have d3 : (k : Int) < S := by omega)
        go_wp2_with fail
        (with_reducible refine (cr.out _ ho.out).mono ?_); rintro e v1 ⟨⟨a1, k1, rfl⟩, hb⟩; have K1 := hid (hl.out.kept hb); have K2 := hid (ho.out.kept hb); clear hb hL cr hl ho
        go_wp2_with fail
        have hv : (A + (k : Int) + 1 : Int) = A + ((k + 1 : Nat) : Int) := by omega
        have hm : (A + Y + 1 - (A + (k : Int) + 1)).toNat < (A + Y + 1 - (A + (k : Int))).toNat := by omega
        exact ⟨⟨k + 1, (by omega), (congrArg (Value.int .i64) hv), K2, K1⟩, hm⟩
    · have hkb : decide (A + (k : Int) ≤ A + Y) = false := decide_eq_false (by omega)
      have cu := hid (fun w h => unplug1_any S B0 (.slice (some ⟨g, 0, none⟩) 1 cap) 4 A m1 (by omega) (by omega) m3 (by omega) w h)
      go_wp2_with fail
      (with_reducible refine (cu.out _ ho.out).mono ?_); rintro e v1 ⟨⟨g1, cap1, rfl, hg1, hm1⟩, hb⟩; have K1 := hid (Lv.alloc (vs := [.int .i64 S, .slice (some ⟨g1, 0, none⟩) 0 cap1]) (T := 57) (hl.out.kept hb)); clear hb hL cu hl ho hg1
      have HM := hid hm1
      have hL := K1.out.facts
      simp only [liveAt, cellsAt, and_true, Nat.zero_add, Nat.reduceAdd, World.size_alloc] at hL
      have c0 := hid (fun w => ready0_any S (A + 100) (some ⟨g1, 0, none⟩) cap1 m1 (by omega) w)
      go_wp2_with fail
      clear hL
      (with_reducible refine (c0.out _).mono ?_); rintro e v2 ⟨⟨a1, k1, rfl⟩, hb⟩; have K2 := hid (K1.out.kept hb); clear hb K1 c0
      have hL := K2.out.facts
      simp only [liveAt, cellsAt, and_true, Nat.zero_add, Nat.reduceAdd, World.size_alloc] at hL
      have ce := hid (fun w => plugE_any S 4 (A + Y + G) g1 cap1 HM.out m1 (by omega) (by omega) (by omega) (by omega) w)
      go_wp2_with fail
      clear hL
      (with_reducible refine (ce.out _).mono ?_); rintro e v3 ⟨⟨v', rfl, ho⟩, hb⟩; have K3 := hid (Lv.alloc (vs := [.int .i64 S, v']) (T := 57) (K2.out.kept hb)); have HO3 := hid (One.kept (w' := v3.alloc (.cells #[.int .i64 S, v'] 57)) ho (by go_grown)); clear hb K2 ce ho hm1
      obtain ⟨g3, cap3, rfl, _, _, _, _, _, _⟩ := HO3.out.facts
      have hL := K3.out.facts
      simp only [liveAt, cellsAt, and_true, Nat.zero_add, Nat.reduceAdd, World.size_alloc] at hL
      have cr := hid (fun w h => ready1_any S v2.heap.size (.slice (some ⟨g3, 0, none⟩) 1 cap3) 4 (A + Y + G) (A + Y + G) m1 (by omega) (by omega) (by omega) (by omega) (by omega) (by omega) w h)
      have cs := hid (fun w h => ready1_any S v2.heap.size (.slice (some ⟨g3, 0, none⟩) 1 cap3) 4 (A + Y + G) (A + Y + G + S) m1 (by omega) (by omega) (by omega) (by omega) (by omega) (by omega) w h)
      rw [if_pos (show A + Y + G ≤ A + Y + G + S - S by omega)] at cs
      by_cases hS : S = 0
      all_goals
        first
          | (rw [if_pos (show A + Y + G ≤ A + Y + G - S by omega)] at cr; have d1 : (S == 0) = true := by simpa using hS)
          | (rw [if_neg (show ¬ A + Y + G ≤ A + Y + G - S by omega)] at cr; have d1 : (S == 0) = false := by simpa using hS)
        clear hS
        go_wp2_with fail
        clear hL
        (with_reducible refine (cr.out _ HO3.out).mono ?_); rintro e v4 ⟨⟨a4, k4, rfl⟩, hb⟩; have K4 := hid (K3.out.kept hb); have HO4 := hid (HO3.out.kept hb); clear hb K3 HO3 cr
        have hL := K4.out.facts
        simp only [liveAt, cellsAt, and_true, Nat.zero_add, Nat.reduceAdd, World.size_alloc] at hL
        go_wp2_with fail
        clear hL
        (with_reducible refine (cs.out _ HO4.out).mono ?_); rintro e v5 ⟨⟨a5, k5, rfl⟩, hb⟩; have K5 := hid (K4.out.kept hb); clear hb K4 HO4 cs
        go_wp2_with fail
        go_ret
        exact ⟨rfl, K5.out.below⟩
end Go.Proofs.Ytnfkcfogmficfaa
