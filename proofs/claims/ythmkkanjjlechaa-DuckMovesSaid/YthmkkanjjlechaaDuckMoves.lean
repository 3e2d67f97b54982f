/- DuckMoves: the walk. -/
import Derived.Test.YthmkkanjjlechaaDuckSteps
namespace Go.Proofs.Ythmkkanjjlechaa
open Go.ChangeShapes Go.WideShapes Go.ChangeAt Go.RowKit
set_option linter.unusedVariables false
set_option linter.unusedSimpArgs false

theorem rampOk_any (f t n : Int) (hf : 0 ≤ f ∧ f ≤ 262144) (ht : 0 ≤ t ∧ t ≤ 262144) (hn : 0 ≤ n ∧ n ≤ 8192) (w : World) :
    Calls Try.prog 38 #[.agg #[.int .i64 f, .int .i64 t, .int .i64 n, .int .i64 0]] w fun e w' => e = .returned (.bool true) ∧ Below w.heap.size w w' := by
  obtain ⟨f1, f2⟩ := hf
  obtain ⟨t1, t2⟩ := ht
  obtain ⟨n1, n2⟩ := hn
  go_enter Try.func38, Try.ntmps38
  go_wp2
  all_goals go_ret
  all_goals refine ⟨ret_b ?_, by go_grown⟩
  all_goals first | rfl | (simp; omega) | (exfalso; omega)
theorem nex_bd {g q a r h x : Int} (hv : duV g q a r h = true) (hx : 0 ≤ x ∧ x ≤ 262144) (hne : g ≠ x) :
    (x < g → (nexV g q a r h x).1 < g ∧ g - (nexV g q a r h x).1 ≤ a) ∧ (g < x → g ≤ (nexV g q a r h x).1 ∧ (nexV g q a r h x).1 - g ≤ r) := by
  obtain ⟨⟨g1, g2⟩, ⟨h1, h2⟩, ⟨q1, q2⟩, ⟨a1, a2⟩, r1, r2⟩ := duV_true.1 hv
  unfold nexV
  refine ⟨fun h => ?_, fun h => ?_⟩
  · rw [if_pos h]; constructor <;> (simp only; omega)
  · rw [if_neg (by omega)]
    split <;> constructor <;> (simp only; omega)
theorem nex_self {q a r h x : Int} (hr : 0 ≤ r) : nexV x q a r h x = (x, q) := by
  unfold nexV
  rw [if_neg (by omega), if_neg (by omega), show min x (x + r) = x by omega]
theorem stp_4000 {d s : Int} (hd : 0 ≤ d ∧ d ≤ 262144) (hs : 4000 ≤ s) : 0 ≤ stpV d s ∧ stpV d s ≤ 66 := by
  unfold stpV
  refine ⟨Int.ediv_nonneg (by omega) (by omega), ?_⟩
  have : (d + s - 1) / s < 67 := Int.ediv_lt_of_lt_mul (by omega) (by omega)
  omega
theorem qgo_4000 {g q a r h x : Int} (hv : duV g q a r h = true) (hx : 0 ≤ x ∧ x ≤ 262144) (ha : 4000 ≤ a) (hr : 4000 ≤ r) (hh : h ≤ 5) : 0 ≤ qgo g q a r x ∧ qgo g q a r x ≤ 71 := by
  obtain ⟨⟨g1, g2⟩, ⟨h1, h2⟩, ⟨q1, q2⟩, ⟨a1, a2⟩, r1, r2⟩ := duV_true.1 hv
  unfold qgo
  split
  · have := stp_4000 (d := g - x) (s := a) (by omega) ha; omega
  · split
    · have := stp_4000 (d := x - g) (s := r) (by omega) hr; omega
    · omega
set_option maxRecDepth 100000 in
set_option maxHeartbeats 16000000 in
theorem duckMoves_walk (a : Option Addr) (len cap : Nat) (l : List Int) (x : Int) (w : World) (hs : Sl .i64 w a len cap l) (hx : -9223372036854775808 ≤ x ∧ x ≤ 9223372036854775807) :
    Calls Try.prog 12 #[.slice a len cap, .int .i64 x] w fun e w' => e = .returned (.bool true) ∧ Below w.heap.size w w' := by
  have HS := hid hs
  clear hs
  obtain ⟨hx1, hx2⟩ := hx
  have cm := hid (fun w => mod_any x 262145 (by omega) (by omega) w)
  have m1 := Int.emod_nonneg x (show (262145 : Int) ≠ 0 by omega)
  have m2 := Int.emod_lt_of_pos x (show (0 : Int) < 262145 by omega)
  generalize x % 262145 = m at *
  go_enter Try.func12, Try.ntmps12
  go_wp2_with fail
  (with_reducible refine (sane32_any _).mono ?_); rintro e w1 ⟨rfl, hb⟩; have HL1 := hid ((Lv.start w).kept hb); clear hb
  go_wp2_with fail
  (with_reducible refine (made32_any a len cap l _ (HS.out.below HL1.out.below)).mono ?_); rintro e w2 ⟨⟨g, q, a1, r1, h, rfl, hv, hr9, hh5⟩, hb⟩; have HL2 := hid (Lv.alloc (vs := [.int .i64 a1, .int .i64 r1, .int .i64 h]) (T := 61) (Lv.alloc (vs := [.int .i64 g, .int .i64 q]) (T := 59) (HL1.out.kept hb))); have hz : w.heap.size ≤ w2.heap.size := Nat.le_trans HL1.out.size hb.size; clear hb HL1 HS
  have HV := hid hv
  clear hv
  go_upto_region 4 with (fail)
  have HL3 := HL2.out
  simp only [World.size_alloc] at HL3
  generalize (w2.alloc (.cells #[.int .i64 g, .int .i64 q] 59)).alloc (.cells #[.int .i64 a1, .int .i64 r1, .int .i64 h] 61) = W3 at *
  have hL := HL3.facts
  simp only [liveAt, cellsAt, and_true, Nat.zero_add, Nat.reduceAdd, World.size_alloc] at hL
  obtain ⟨A, hA⟩ : ∃ A, (if a1 < 4000 then (4000 : Int) else a1) = A := ⟨_, rfl⟩
  obtain ⟨R, hR⟩ : ∃ A, (if r1 < 4000 then (4000 : Int) else r1) = A := ⟨_, rfl⟩
  have hV2 : duV g q A R h = true ∧ 4000 ≤ A ∧ 4000 ≤ R := by
    obtain ⟨⟨b1, b2⟩, ⟨b3, b4⟩, ⟨b5, b6⟩, ⟨b7, b8⟩, b9, b10⟩ := duV_true.1 HV.out
    rw [duV_true]
    omega
  obtain ⟨hV2, hA4, hR4⟩ := hV2
  have HV2 := hid hV2
  clear hV2 HV
  have HL4 := hid (((HL3.set (i := 0) (v := .int .i64 A) (by omega) (by simp)).set (i := 1) (v := .int .i64 R) (by omega) (by simp)).swp)
  clear HL3 HL2
  go_upto_region 6 with (go_at_call 33; (with_reducible refine (cm.out _).mono ?_); rintro e w9 ⟨rfl, rfl⟩)
  clear hL hA hR cm
  have hl := HL4.out
  simp only [List.set_cons_zero, List.set_cons_succ] at hl
  generalize World.setCell _ _ _ = W6 at *
  have hB : w2.heap.size + 1 ≠ w2.heap.size := by omega
  generalize w2.heap.size + 1 = B2 at *
  generalize w2.heap.size = B1 at *
  clear HL4
  have hL := hl.facts
  simp only [liveAt, cellsAt, and_true, Nat.zero_add, Nat.reduceAdd, World.size_alloc] at hL
  obtain ⟨nb0, nb1⟩ := qgo_4000 HV2.out ⟨m1, by omega⟩ hA4 hR4 hh5
  have cq := hid (fun w => dquanta_any g q A R h m w)
  rw [show quaV g q A R h m = qgo g q A R m from if_pos ⟨HV2.out, m1, by omega⟩] at cq
  obtain ⟨N, hN⟩ : ∃ N, qgo g q A R m = N := ⟨_, rfl⟩
  rw [hN] at nb0 nb1 cq
  have HN := hid hN
  clear hN
  go_wp2_with fail
  (with_reducible refine (cq.out _).mono ?_); rintro e w7 ⟨rfl, hb⟩; have HL5 := hid (hl.kept hb); clear hb hl cq hL
  go_wp2_with fail
  go_loopw [8] (fun i wr => ∃ (k : Nat) (G Q : Int), i = .int .i64 k ∧ Hid ((k : Int) + qgo G Q A R m = N) ∧ Hid (duV G Q A R h = true) ∧ Hid (Lv w wr [(B1, [.int .i64 G, .int .i64 Q], 59), (B2, [.int .i64 A, .int .i64 R, .int .i64 h], 61)])) (fun i _ => N.toNat - (intOf i).toNat)
  case atStart => exact ⟨0, g, q, rfl, hid (by have := HN.out; omega), HV2, HL5⟩
  case round =>
    obtain ⟨k, G, Q, rfl, hK, hG, hl⟩ := hrel
    clear HL5 HN HV2
    have hL := hl.out.facts
    simp only [liveAt, cellsAt, and_true, Nat.zero_add, Nat.reduceAdd, World.size_alloc] at hL
    obtain ⟨⟨b1, b2⟩, ⟨b3, b4⟩, ⟨b5, b6⟩, ⟨b7, b8⟩, b9, b10⟩ := duV_true.1 hG.out
    obtain ⟨q0, q1⟩ := qgo_bd hG.out (x := m) ⟨m1, by omega⟩
    have hkk := hK.out
    by_cases hlt : (k : Int) < N
    · have hlb : decide ((k : Int) < N) = true := decide_eq_true hlt
      have hne : G ≠ m := by
        rintro rfl
        rw [qgo_self] at hkk
        omega
      obtain ⟨s1, s2⟩ := qgo_step hG.out (x := m) ⟨m1, by omega⟩ hne
      obtain ⟨n1, n2⟩ := nex_bd hG.out (x := m) ⟨m1, by omega⟩ hne
      have cs := hid (fun w => dstep_ok G Q A R h m 16 hG.out ⟨m1, by omega⟩ (by omega) w)
      have cv := hid (fun w => dvalid_any (nexV G Q A R h m).1 (nexV G Q A R h m).2 A R h w)
      rw [s2] at cv
      obtain ⟨⟨y1, y2⟩, _⟩ := duV_true.1 s2
      have cr := hid (fun w => rampOk_any G (nexV G Q A R h m).1 16 ⟨b1, b2⟩ ⟨y1, y2⟩ (by omega) w)
      generalize (nexV G Q A R h m).1 = G2 at *
      generalize (nexV G Q A R h m).2 = Q2 at *
      have HS2 := hid s2
      have HS1 := hid (show ((k + 1 : Nat) : Int) + qgo G2 Q2 A R m = N by omega)
      have hneb : (G == m) = false := by simpa using hne
      have d1 : decide (R < G2 - G) = false := decide_eq_false (by omega)
      have d2 : decide (A < -(G2 - G)) = false := decide_eq_false (by omega)
      have d3 : (decide (G < m) && decide (G2 - G < 0)) = false := by rw [Bool.and_eq_false_iff]; simp; omega
      clear s1 s2 hkk q0 q1 hne
      go_wp2_with fail
      clear hL
      (with_reducible refine (cs.out _).mono ?_); rintro e v1 ⟨rfl, hb⟩; have K1 := hid (Lv.alloc (vs := [.int .i64 G, .int .i64 G2, .int .i64 16, .int .i64 0]) (T := 67) (Lv.alloc (vs := [.int .i64 G2, .int .i64 Q2]) (T := 59) (hl.out.kept hb))); clear hb hl cs
      have hL := K1.out.facts
      simp only [liveAt, cellsAt, and_true, Nat.zero_add, Nat.reduceAdd, World.size_alloc] at hL
      go_wp2_with fail
      clear hL
      (with_reducible refine (cr.out _).mono ?_); rintro e v2 ⟨rfl, hb⟩; have K2 := hid (K1.out.kept hb); clear hb K1 cr
      have hL := K2.out.facts
      simp only [liveAt, cellsAt, and_true, Nat.zero_add, Nat.reduceAdd, World.size_alloc] at hL
      go_wp2_with fail
      clear hL
      (with_reducible refine (cv.out _).mono ?_); rintro e v3 ⟨rfl, hb⟩; have K3 := hid (K2.out.kept hb); clear hb K2 cv
      have hL := K3.out.facts
      simp only [liveAt, cellsAt, and_true, Nat.zero_add, Nat.reduceAdd, World.size_alloc] at hL
      rcases Int.lt_or_lt_of_ne (show G ≠ m by simpa using hneb) with hgm | hgm
      all_goals go_wp2_with fail
      all_goals have K4 := hid ((K3.out.drop.drop.set (i := 0) (v := .int .i64 G2) hz (by simpa using hB)).set (i := 1) (v := .int .i64 Q2) hz (by simpa using hB))
      all_goals exact ⟨⟨k + 1, G2, Q2, by go_num, HS1, HS2, K4⟩, by simp [intOf]; omega⟩
    · have hG0 : G = m := qgo_zero (show qgo G Q A R m = 0 by omega) b5 b7 b9
      have hlb : decide ((k : Int) < N) = false := decide_eq_false hlt
      clear hkk q0 q1
      subst hG0
      have cs := hid (fun w => dstep_ok G Q A R h G 16 hG.out ⟨m1, by omega⟩ (by omega) w)
      rw [nex_self (by omega)] at cs
      have e1 : (G == G) = true := by simp
      go_wp2_with fail
      clear hL
      (with_reducible refine (cs.out _).mono ?_); rintro e v1 ⟨rfl, hb⟩; have K1 := hid (Lv.alloc (vs := [.int .i64 G, .int .i64 G, .int .i64 16, .int .i64 0]) (T := 67) (Lv.alloc (vs := [.int .i64 G, .int .i64 Q]) (T := 59) (hl.out.kept hb))); clear hb hl cs
      have hL := K1.out.facts
      simp only [liveAt, cellsAt, and_true, Nat.zero_add, Nat.reduceAdd, World.size_alloc] at hL
      go_wp2_with fail
      go_ret
      exact ⟨rfl, K1.out.below⟩
end Go.Proofs.Ythmkkanjjlechaa
