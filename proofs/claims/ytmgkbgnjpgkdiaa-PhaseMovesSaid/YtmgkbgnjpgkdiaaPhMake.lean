/- Phases: how many frames can be made. No statement is proved here. -/
import Derived.Test.YtmgkbgnjpgkdiaaPhSearch
namespace Go.Proofs.Ytmgkbgnjpgkdiaa
open Go.ChangeShapes Go.WideShapes Go.ChangeAt Go.RowKit
set_option linter.unusedVariables false
set_option linter.unusedSimpArgs false

theorem cells6 {W w : World} {b c : Nat} {T U : TypeId} {x0 x1 x2 x3 x4 y : Int} {L : List (Nat × List Value × TypeId)} (h : Lv W w ((c, [.int .i64 y], U) :: (b, [.int .i64 x0, .int .i64 x1, .int .i64 x2, .int .i64 x3, .int .i64 x4], T) :: L)) : w.cell? ⟨b, 0, none⟩ = some (.int .i64 x0) ∧ w.cell? ⟨b, 1, none⟩ = some (.int .i64 x1) ∧ w.cell? ⟨b, 2, none⟩ = some (.int .i64 x2) ∧ w.cell? ⟨b, 3, none⟩ = some (.int .i64 x3) ∧ w.cell? ⟨b, 4, none⟩ = some (.int .i64 x4) ∧ w.cell? ⟨c, 0, none⟩ = some (.int .i64 y) := by
  obtain ⟨a0, a1, a2, a3, a4⟩ := cells5 h.drop
  have hL := h.facts
  simp only [liveAt, cellsAt, Nat.zero_add, Nat.reduceAdd] at hL
  exact ⟨a0, a1, a2, a3, a4, hL.1.1⟩
set_option maxHeartbeats 8000000 in
theorem make1_any (n d a p f m i : Int) (h : PhP n d a p f) (hi : 0 ≤ i) (hi2 : i < 65536) (W w : World) (BX BM : Nat) (L : List (Nat × List Value × TypeId)) (hl : Lv W w ((BM, [.int .i64 m], 2) :: (BX, [.int .i64 n, .int .i64 d, .int .i64 a, .int .i64 p, .int .i64 f], 25) :: L)) :
    Calls Try.prog 36 (#[.int .i64 i] ++ #[.pointer (some ⟨BX, 0, none⟩), .pointer (some ⟨BM, 0, none⟩)]) w fun e w' => e = .returned (.bool (decide (m < nd n d a f (i + 1)))) ∧ Lv W w' ((BM, [.int .i64 m], 2) :: (BX, [.int .i64 n, .int .i64 d, .int .i64 a, .int .i64 p, .int .i64 f], 25) :: L) := by
  have c := hid (fun w => need_any n d a p f (i + 1) h (by omega) (by omega) w)
  have u : IntKind.i64.wrap (i + 1) = i + 1 := IntWalk.i64_in _ (by omega)
  clear h hi hi2
  generalize nd n d a f (i + 1) = V at *
  have hl := hl.drew
  have hc := cells6 hl
  go_enter Try.func36, Try.ntmps36
  go_upto_region 1 with (fail)
  go_region_held3 (fun w' => w'.cell? ⟨BX, 0, none⟩ = some (.int .i64 n) ∧ w'.cell? ⟨BX, 1, none⟩ = some (.int .i64 d) ∧ w'.cell? ⟨BX, 2, none⟩ = some (.int .i64 a) ∧ w'.cell? ⟨BX, 3, none⟩ = some (.int .i64 p) ∧ w'.cell? ⟨BX, 4, none⟩ = some (.int .i64 f) ∧ w'.cell? ⟨BM, 0, none⟩ = some (.int .i64 m)) (first | assumption | exact cells6 (by assumption)) (first
    | (go_at_call 35; (with_reducible refine (c.out _).mono ?_); rintro e w8 ⟨rfl, hb⟩; have hl := Lv.kept (by assumption) hb; clear hb))
  go_wp2_with fail
  go_ret
  exact ⟨rfl, hl⟩
theorem q_char {n d a p f m : Int} (h : PhP n d a p f) (hm : 0 ≤ m) (i : Nat) (hi : i < 65536) : (decide (m < nd n d a f ((i : Int) + 1)) = false ↔ i < mkN n d a f m) := by
  obtain ⟨hn, hd, ha, hp, hf⟩ := h
  have hs := step_bd hn.1 hn.2 ha.1 ha.2
  have hc := mkN_char (n := n) (d := d) (a := a) (f := f) (m := m) (by omega) hd.1 hf.1 hm ((i : Int) + 1) (by omega) (by omega)
  rw [decide_eq_false_iff_not]
  omega
set_option maxHeartbeats 8000000 in
theorem pmake_ok (n d a p f m : Int) (h : phV n d a p f = true) (hm : 0 ≤ m) (hm2 : m ≤ 1099511627776) (w : World) :
    Calls Try.prog 23 #[.agg #[.int .i64 n, .int .i64 d, .int .i64 a, .int .i64 p, .int .i64 f], .int .i64 m] w fun e w' => e = .returned (.tuple #[.int .i64 (mkN n d a f m), .int .i64 0]) ∧ Below w.heap.size w w' := by
  have c1 := hid (fun w => check_any n d a p f m 1099511627776 w)
  rw [chkE_ok h hm hm2] at c1
  have hP := hid (phV_P h)
  have HN := hid (mkN_le n d a f m)
  have HQ := hid (q_char (phV_P h) hm)
  clear h
  have hl := Lv.alloc (vs := [.int .i64 m]) (T := 2) (Lv.alloc (vs := [.int .i64 n, .int .i64 d, .int .i64 a, .int .i64 p, .int .i64 f]) (T := 25) (Lv.start w))
  simp only [World.size_alloc] at hl
  have HL0 := hid hl
  clear hl
  have c2 := hid (fun (w' : World) (hl : Lv w w' [(w.heap.size + 1, [.int .i64 m], 2), (w.heap.size, [.int .i64 n, .int .i64 d, .int .i64 a, .int .i64 p, .int .i64 f], 25)]) => search_any #[.pointer (some ⟨w.heap.size, 0, none⟩), .pointer (some ⟨w.heap.size + 1, 0, none⟩)] (fun i => decide (m < nd n d a f ((i : Int) + 1))) (mkN n d a f m) HN.out HQ.out w w' _ hl (fun i w'' hi hl => make1_any n d a p f m i hP.out (by omega) (by omega) w w'' _ _ _ hl))
  clear HQ HN hm hm2
  generalize mkN n d a f m = C at *
  go_enter Try.func23, Try.ntmps23
  go_wp2_with fail
  (with_reducible refine (c1.out _).mono ?_); rintro e w1 ⟨rfl, hb⟩; have HL := hid (HL0.out.kept hb); clear hb c1 HL0
  have hL := HL.out.facts
  simp only [liveAt, cellsAt, and_true, Nat.zero_add, Nat.reduceAdd, World.size_alloc] at hL
  go_wp2_with fail
  (with_reducible refine (c2.out _ HL.out).mono ?_); rintro e w2 ⟨rfl, hb⟩; have HL2 := hid hb; clear hb c2 HL hL
  go_wp2_with fail
  go_returns
  exact ⟨rfl, HL2.out.below⟩
set_option maxHeartbeats 8000000 in
theorem pmake_bad (n d a p f m : Int) (h : ¬ (phV n d a p f = true ∧ 0 ≤ m ∧ m ≤ 1099511627776)) (w : World) :
    Calls Try.prog 23 #[.agg #[.int .i64 n, .int .i64 d, .int .i64 a, .int .i64 p, .int .i64 f], .int .i64 m] w fun e w' => e = .returned (.tuple #[.int .i64 0, .int .i64 (chkE (phV n d a p f) m 1099511627776)]) ∧ Below w.heap.size w w' := by
  have c1 := hid (fun w => check_any n d a p f m 1099511627776 w)
  obtain ⟨z1, z2⟩ := chkE_bad h
  clear h
  generalize chkE (phV n d a p f) m 1099511627776 = E at *
  have hl := Lv.alloc (vs := [.int .i64 m]) (T := 2) (Lv.alloc (vs := [.int .i64 n, .int .i64 d, .int .i64 a, .int .i64 p, .int .i64 f]) (T := 25) (Lv.start w))
  simp only [World.size_alloc] at hl
  have HL0 := hid hl
  clear hl
  go_enter Try.func23, Try.ntmps23
  go_wp2_with fail
  (with_reducible refine (c1.out _).mono ?_); rintro e w1 ⟨rfl, hb⟩; have HL := hid (HL0.out.kept hb); clear hb c1 HL0
  go_wp2_with fail
  go_returns
  exact ⟨rfl, HL.out.below⟩
set_option maxRecDepth 100000 in
set_option maxHeartbeats 8000000 in
theorem rmk_ok (n d a p f m : Int) (h : phV n d a p f = true) (hm : 0 ≤ m) (hm2 : m ≤ 1099511627776) (w : World) :
    Calls Try.prog 24 #[.agg #[.int .i64 n, .int .i64 d, .int .i64 a, .int .i64 p, .int .i64 f], .int .i64 m] w fun e w' => e = .returned (.tuple #[.int .i64 (mkN n d a f m), .int .i64 0]) ∧ Below w.heap.size w w' := by
  have c1 := hid (fun w => rvalid_any n d a p f w)
  rw [h] at c1
  have c2 := hid (fun (k : Nat) (hk : k ≤ 65536) w => rneed_ok n d a p f k h (by omega) (by omega) w)
  have HQ := hid (fun (k : Nat) (hk : k ≤ 65536) => mkN_char (n := n) (d := d) (a := a) (f := f) (m := m) (by have hP := phV_P h; have := step_bd hP.1.1 hP.1.2 hP.2.2.1.1 hP.2.2.1.2; omega) (phV_P h).2.1.1 (phV_P h).2.2.2.2.1 hm k (by omega) (by omega))
  have hC := mkN_le n d a f m
  have m1 : ¬ (m < 0) := by omega
  have m2 : ¬ (1099511627776 < m) := by omega
  clear h hm hm2
  generalize mkN n d a f m = C at *
  go_enter Try.func24, Try.ntmps24
  go_wp2_with fail
  (with_reducible refine (c1.out _).mono ?_); rintro e w1 ⟨rfl, hb⟩; have HL := hid (Lv.kept (Lv.alloc (vs := [.int .i64 n, .int .i64 d, .int .i64 a, .int .i64 p, .int .i64 f]) (T := 25) (Lv.start w)) hb); clear hb c1
  go_wp2_with fail
  go_loopw [6, 7] (fun u v wr => ∃ lo hi : Nat, lo ≤ C ∧ C ≤ hi ∧ hi ≤ 65536 ∧ u = .int .i64 lo ∧ v = .int .i64 hi ∧ Hid (Lv w wr [(w.heap.size, [.int .i64 n, .int .i64 d, .int .i64 a, .int .i64 p, .int .i64 f], 25)])) (fun u v _ => (intOf v - intOf u).toNat)
  case atStart => exact ⟨0, 65536, by omega, hC, by omega, rfl, rfl, HL⟩
  case round =>
    obtain ⟨lo, hi, h1, h2, h3, rfl, rfl, hl⟩ := hrel
    clear HL
    obtain ⟨wo, rfl⟩ : ∃ wo : World, wo = wr := ⟨_, rfl⟩
    by_cases hlt : lo < hi
    · have hb : decide ((lo : Int) < (hi : Int)) = true := decide_eq_true (by omega)
      have td : ((lo : Int) + (hi : Int) + 1).tdiv 2 = (((lo + hi + 1) / 2 : Nat) : Int) := by rw [Int.tdiv_eq_ediv_of_nonneg (by omega)]; omega
      have td2 : ((lo : Int) + (hi : Int) + 1) / 2 = (((lo + hi + 1) / 2 : Nat) : Int) := by omega
      have hqc := hid (HQ.out ((lo + hi + 1) / 2) (by omega))
      have cN := hid (c2.out ((lo + hi + 1) / 2) (by omega))
      have hM : lo < (lo + hi + 1) / 2 ∧ (lo + hi + 1) / 2 ≤ hi := by omega
      generalize (lo + hi + 1) / 2 = M at *
      generalize nd n d a f (M : Int) = V at *
      obtain ⟨hM1, hM2⟩ := hM
      have hL := hl.out.facts
      simp only [liveAt, cellsAt, and_true, Nat.zero_add, Nat.reduceAdd, World.size_alloc] at hL
      by_cases hV : V ≤ m
      · have hb2 : decide (V ≤ m) = true := decide_eq_true hV
        go_wp2_with fail
        (with_reducible refine (cN.out _).mono ?_); rintro e w2 ⟨rfl, hb⟩; have HL2 := hid (hl.out.kept hb); clear hb cN hL
        go_wp2_with fail
        go_roundw
        case rel => first | exact ⟨M, hi, by have := hqc.out.1 hV; omega, h2, h3, by go_num, rfl, HL2⟩ | ((repeat apply Exists.intro); exact ⟨⟨M, hi, by have := hqc.out.1 hV; omega, h2, h3, by go_num, rfl, HL2⟩, rfl⟩)
        case measure => simp only [intOf]; omega
      · have hb2 : decide (V ≤ m) = false := decide_eq_false hV
        have hMC := hid (show C ≤ M - 1 by have := mt hqc.out.2 hV; omega)
        go_wp2_with fail
        (with_reducible refine (cN.out _).mono ?_); rintro e w2 ⟨rfl, hb⟩; have HL2 := hid (hl.out.kept hb); clear hb cN hL
        go_wp2_with fail
        go_roundw
        case rel => first | exact ⟨lo, M - 1, h1, hMC.out, by omega, rfl, by rw [show ((M - 1 : Nat) : Int) = (M : Int) - 1 by omega]; try go_num, HL2⟩ | ((repeat apply Exists.intro); exact ⟨⟨lo, M - 1, h1, hMC.out, by omega, rfl, by rw [show ((M - 1 : Nat) : Int) = (M : Int) - 1 by omega]; try go_num, HL2⟩, rfl⟩)
        case measure => simp only [intOf]; omega
    · obtain rfl : lo = hi := by omega
      obtain rfl : lo = C := by omega
      have hb : decide ((lo : Int) < (lo : Int)) = false := decide_eq_false (by omega)
      go_wp2
      go_returns
      exact ⟨rfl, hl.out.below⟩
set_option maxHeartbeats 8000000 in
theorem rmk_bad (n d a p f m : Int) (h : ¬ (phV n d a p f = true ∧ 0 ≤ m ∧ m ≤ 1099511627776)) (w : World) :
    Calls Try.prog 24 #[.agg #[.int .i64 n, .int .i64 d, .int .i64 a, .int .i64 p, .int .i64 f], .int .i64 m] w fun e w' => e = .returned (.tuple #[.int .i64 0, .int .i64 (chkE (phV n d a p f) m 1099511627776)]) ∧ Below w.heap.size w w' := by
  have c1 := hid (fun w => rvalid_any n d a p f w)
  have HX := hid h
  have HC := hid (chkE_cases (V := phV n d a p f) (x := m) (m := 1099511627776))
  clear h
  generalize phV n d a p f = V at *
  generalize chkE V m 1099511627776 = E at *
  have hV : V = false ∨ V = true := by cases V <;> simp
  rcases hV with rfl | rfl
  · obtain rfl : E = 1 := by have := HC.out; simp at this; exact this
    go_enter Try.func24, Try.ntmps24
    go_wp2_with fail
    (with_reducible refine (c1.out _).mono ?_); rintro e w1 ⟨rfl, hb⟩; have HL := hid (Lv.kept (Lv.alloc (vs := [.int .i64 n, .int .i64 d, .int .i64 a, .int .i64 p, .int .i64 f]) (T := 25) (Lv.start w)) hb); clear hb c1
    go_wp2_with fail
    go_returns
    exact ⟨rfl, HL.out.below⟩
  · obtain ⟨hm, rfl⟩ : (m < 0 ∨ 1099511627776 < m) ∧ E = 2 := by
      rcases HC.out with ⟨h1, _⟩ | ⟨_, h1, h2⟩ | ⟨_, h1, h2, _⟩
      · cases h1
      · exact ⟨h1, h2⟩
      · exact absurd ⟨rfl, h1, h2⟩ HX.out
    rcases hm with hm | hm
    · go_enter Try.func24, Try.ntmps24
      go_wp2_with fail
      (with_reducible refine (c1.out _).mono ?_); rintro e w1 ⟨rfl, hb⟩; have HL := hid (Lv.kept (Lv.alloc (vs := [.int .i64 n, .int .i64 d, .int .i64 a, .int .i64 p, .int .i64 f]) (T := 25) (Lv.start w)) hb); clear hb c1
      go_wp2_with fail
      go_returns
      exact ⟨rfl, HL.out.below⟩
    · have hm2 : ¬ (m < 0) := by omega
      go_enter Try.func24, Try.ntmps24
      go_wp2_with fail
      (with_reducible refine (c1.out _).mono ?_); rintro e w1 ⟨rfl, hb⟩; have HL := hid (Lv.kept (Lv.alloc (vs := [.int .i64 n, .int .i64 d, .int .i64 a, .int .i64 p, .int .i64 f]) (T := 25) (Lv.start w)) hb); clear hb c1
      go_wp2_with fail
      go_returns
      exact ⟨rfl, HL.out.below⟩
end Go.Proofs.Ytmgkbgnjpgkdiaa
