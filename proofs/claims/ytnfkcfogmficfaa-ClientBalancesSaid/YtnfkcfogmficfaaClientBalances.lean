/- ClientBalances: the walk. -/
import Derived.Test.YtnfkcfogmficfaaClientMade
import Derived.Test.YtnfkcfogmficfaaDeckR
import Derived.Deep.LoopGhost
import Derived.Outline
namespace Go.Proofs.Ytnfkcfogmficfaa
open Go.ChangeShapes Go.WideShapes Go.ChangeAt Go.RowKit
set_option linter.unusedVariables false
set_option linter.unusedSimpArgs false

theorem few_any (a : Option Addr) (len cap : Nat) (w : World) (hm : len ≤ 9223372036854775807) :
    Calls Try.prog 61 #[.slice a len cap] w fun e w' => e = .returned (.bool (decide (len ≤ 200))) ∧ w = w' := by
  go_enter Try.func61, Try.ntmps61
  go_wp2
  go_ret
  exact ⟨ret_b (by rw [Bool.eq_iff_iff]; simp; try omega), rfl⟩
theorem DR.set5 {W w : World} {d r b : Nat} {x0 x1 x2 x3 x4 y0 y1 y2 y3 y4 : Value} {T : TypeId} {L : List (Nat × List Value × TypeId)} (h : DR W w d r ((b, [x0, x1, x2, x3, x4], T) :: L)) (hb : d < b) (hL : ∀ x ∈ L, x.1 ≠ b) :
    DR W (w.setCells b 0 [y0, y1, y2, y3, y4]) d r ((b, [y0, y1, y2, y3, y4], T) :: L) :=
  ((((h.set (i := 0) (v := y0) hb hL).set (i := 1) (v := y1) hb hL).set (i := 2) (v := y2) hb hL).set (i := 3) (v := y3) hb hL).set (i := 4) (v := y4) hb hL
/-- what a balance is at a round's head: the conduct, what was needed, what was missing, how long it was short -/
structure Bal (p g t s n m q : Int) (len r : Nat) : Prop where
  p0 : 0 ≤ p ∧ p ≤ 4
  t0 : 0 ≤ t ∧ t ≤ g
  g0 : g ≤ 60 * ((len : Int) - r)
  n0 : 0 ≤ m ∧ n - m = t ∧ n ≤ 60 * ((len : Int) - r)
  s0 : s = q ∧ 0 ≤ q ∧ q ≤ (len : Int) - r
  r0 : r ≤ len ∧ len ≤ 200
theorem Bal.valid {p g t s n m q : Int} {len r : Nat} (h : Bal p g t s n m q len r) : cvalid p g t s = true := by
  have := h.p0; have := h.t0; have := h.g0; have := h.s0; have := h.r0
  unfold cvalid; apply decide_eq_true; omega
theorem Bal.more_in {p g t n m q x y : Int} {len r : Nat} (h : Bal p g t q n m q len r) (hr : 0 < r) (x0 : 0 ≤ x) (x1 : x < 60) (y0 : 0 ≤ y) (y1 : y < 60) (he : y ≤ g + x - t) : Bal p (g + x) (t + y) 0 (n + y) m 0 len (r - 1 - 1) := by
  obtain ⟨⟨p0, p1⟩, ⟨t0, t1⟩, g0, ⟨n0, n1, n2⟩, ⟨_, s0, s1⟩, r0, r1⟩ := h
  exact ⟨⟨by omega, by omega⟩, ⟨by omega, by omega⟩, by omega, ⟨by omega, by omega, by omega⟩, ⟨rfl, by omega, by omega⟩, by omega, by omega⟩
theorem Bal.more_out {p g t n m q x y : Int} {len r : Nat} (h : Bal p g t q n m q len r) (hr : 0 < r) (x0 : 0 ≤ x) (x1 : x < 60) (y0 : 0 ≤ y) (y1 : y < 60) (he : ¬ y ≤ g + x - t) : Bal p (g + x) (g + x) (q + 1) (n + y) (m + (y - (g + x - t))) (q + 1) len (r - 1 - 1) := by
  obtain ⟨⟨p0, p1⟩, ⟨t0, t1⟩, g0, ⟨n0, n1, n2⟩, ⟨_, s0, s1⟩, r0, r1⟩ := h
  exact ⟨⟨by omega, by omega⟩, ⟨by omega, by omega⟩, by omega, ⟨by omega, by omega, by omega⟩, ⟨rfl, by omega, by omega⟩, by omega, by omega⟩
theorem wrote_ok {p g t s x : Int} (h : cvalid p g t s = true) (hx : 0 ≤ x) (hg : g + x ≤ 1099511627776) : cwrote p g t s false x = ((p, g + x, t, s, false), 0) := by
  unfold cwrote; rw [if_neg (by rw [h]; simp), if_neg (by simp), if_neg (by omega), if_neg (by omega)]
theorem tick_in {p g t s x : Int} (h : cvalid p g t s = true) (hx : 0 ≤ x) (hg : x ≤ g - t) : ctick p g t s false x = ((p, g, t + x, 0, false), 0, 0) := by
  unfold ctick; rw [if_neg (by rw [h]; simp), if_neg (by omega), if_pos hg]
theorem tick_out {p g t s x : Int} (h : cvalid p g t s = true) (hx : 0 ≤ x) (hs : s + 1 ≤ 1099511627776) (hg : ¬ x ≤ g - t) : ctick p g t s false x = ((p, g, g, s + 1, false), x - (g - t), 0) := by
  unfold ctick; rw [if_neg (by rw [h]; simp), if_neg (by omega), if_neg hg, Int.min_eq_left hs]
theorem state_of {p g t s : Int} (h : cvalid p g t s = true) : cstate p g t s false = if p < s then 3 else if 0 < s then 2 else 1 := by
  unfold cstate; rw [if_neg (by rw [h]; simp), if_neg (by simp)]
set_option maxRecDepth 100000 in
set_option maxHeartbeats 16000000 in
theorem clientBalances_walk (a : Option Addr) (len cap : Nat) (l : List Int) (pat : Int) (w : World) (hs : Sl .i64 w a len cap l) (hpat : (Lit.int .i64 pat).wf = true) :
    Calls Try.prog 13 #[.slice a len cap, .int .i64 pat] w fun e w' => e = .returned (.bool true) ∧ Below w.heap.size w w' := by
  have HS := hid hs
  have hm : len ≤ 9223372036854775807 := by have k1 := hs.2.1; have k2 := hs.2.2.1; unfold maxLen at k2; omega
  have hp := bounds_i64 hpat
  clear hs hpat
  by_cases hf : len ≤ 200
  · have hfb : decide (len ≤ 200) = true := decide_eq_true hf
    have cm := hid (fun w => mod_any pat 5 (by omega) (by omega) w)
    have m1 := Int.emod_nonneg pat (show (5 : Int) ≠ 0 by omega)
    have m2 := Int.emod_lt_of_pos pat (show (0 : Int) < 5 by omega)
    generalize pat % 5 = p at *
    have cn := hid (fun w => cnew_any p w)
    rw [show cnew p = (p, 0) from by unfold cnew; rw [if_pos ⟨m1, by omega⟩]] at cn
    go_enter Try.func13, Try.ntmps13
    go_wp2_with (first
      | (go_at_call 45; (with_reducible refine (sane36_any _).mono ?_); rintro e w1 ⟨rfl, hb⟩; have HL := hid ((Lv.start w).kept hb); clear hb)
      | (go_at_call 61; (with_reducible refine (few_any a len cap _ hm).mono ?_); rw [hfb]; rintro e w2 ⟨rfl, rfl⟩)
      | (go_at_call 23; (with_reducible refine (new_dr w a len cap l _ [] (HS.out.below HL.out.below) HL.out).mono ?_); rintro e w3 ⟨rfl, hd⟩; have HD := hid hd; clear hd)
      | (go_at_call 15; (with_reducible refine (cm.out _).mono ?_); rintro e w4 ⟨rfl, rfl⟩)
      | (go_at_call 57; (with_reducible refine (cn.out _).mono ?_); rintro e w5 ⟨rfl, hb⟩; have hz : w1.heap.size < w5.heap.size := (by have h1 := HD.out.deck.lt; have h2 := hb.size; omega); have HD2 := hid (DR.alloc (vs := [.int .i64 p, .int .i64 0, .int .i64 0, .int .i64 0, .bool false]) (T := 82) (HD.out.kept hb)); clear hb))
    generalize w5.alloc (.cells #[.int .i64 p, .int .i64 0, .int .i64 0, .int .i64 0, .bool false] 82) = W5 at *
    generalize w1.heap.size = D at *
    generalize w5.heap.size = C at *
    clear HD HL cn
    go_loopg [8, 9, 10] len (fun k n m q wr => ∃ g t n1 m1 q1 : Int, n = .int .i64 n1 ∧ m = .int .i64 m1 ∧ q = .int .i64 q1 ∧ Hid (Bal p g t q1 n1 m1 q1 len k) ∧ Hid (DR w wr D k [(C, [.int .i64 p, .int .i64 g, .int .i64 t, .int .i64 q1, .bool false], 82)]))
    case atStart => exact ⟨0, 0, 0, 0, 0, rfl, rfl, rfl, hid ⟨⟨by omega, by omega⟩, by omega, by omega, by omega, by omega, by omega⟩, HD2⟩
    case round =>
      obtain ⟨g, t, n, m, q, rfl, rfl, rfl, HB, hd⟩ := hrel
      clear HD2
      by_cases hr : 0 < gk
      · have hrb : decide (0 < gk) = true := decide_eq_true hr
        obtain ⟨⟨p0, p1⟩, ⟨t0, t1⟩, g0, ⟨n0, n1, n2⟩, ⟨_, s0, s1⟩, r0, r1⟩ := HB.out
        have hv := hid HB.out.valid
        have HN := hid n1
        clear n1
        have g1 : g ≤ 12000 := by omega
        have q1 : q ≤ 200 := by omega
        have u1 : n ≤ 12000 := by omega
        have u2 : m ≤ n := by have := HN.out; omega
        clear g0 n2 s1
        go_wp2_with fail
        (with_reducible refine (left_dr w D gk _ _ hd.out).mono ?_); rw [hrb]; rintro e v1 ⟨rfl, hd1⟩; have H1 := hid hd1; clear hd1 hd hrb
        go_wp2_with fail
        (with_reducible refine (next_dr w D gk _ 60 (by omega) (by omega) _ H1.out).mono ?_); rintro e v2 ⟨⟨x, rfl, x0, x1⟩, hd1⟩; have H2 := hid hd1; clear hd1 H1
        go_wp2_with fail
        (with_reducible refine (next_dr w D (gk - 1) _ 60 (by omega) (by omega) _ H2.out).mono ?_); rintro e v3 ⟨⟨y, rfl, y0, y1⟩, hd1⟩; have H3 := hid hd1; clear hd1 H2
        have cw := hid (fun w => cwrote_any p g t q x false w (by omega) (by omega))
        rw [wrote_ok hv.out x0 (by omega)] at cw
        have hv2 : cvalid p (g + x) t q = true := by unfold cvalid; apply decide_eq_true; omega
        have hL := H3.out.lv.facts
        simp only [liveAt, cellsAt, and_true, Nat.zero_add, Nat.reduceAdd, World.size_alloc] at hL
        have HV2 := hid hv2
        clear hv2
        by_cases he : y ≤ g + x - t
        · have ct := hid (fun w => ctick_any p (g + x) t q y false w (by omega) (by omega))
          rw [tick_in HV2.out y0 he] at ct
          have cs := hid (fun w => cstate_any p (g + x) (t + y) 0 false w)
          rw [state_of (by unfold cvalid; apply decide_eq_true; omega), if_neg (by omega), if_neg (by omega)] at cs
          have e1 : decide (y ≤ g - t + x) = true := decide_eq_true (by omega)
          go_wp2_with fail
          clear hL
          (with_reducible refine (cw.out _).mono ?_); rintro e v4 ⟨rfl, hb⟩; have K1 := hid (DR.alloc (vs := [.int .i64 p, .int .i64 (g + x), .int .i64 t, .int .i64 q, .bool false]) (T := 82) (H3.out.kept hb)); clear hb
          have hL := K1.out.lv.facts
          simp only [liveAt, cellsAt, and_true, Nat.zero_add, Nat.reduceAdd, World.size_alloc] at hL
          go_wp2_with fail
          clear hL
          (with_reducible refine (ct.out _).mono ?_); rintro e v5 ⟨rfl, hb⟩; have K2 := hid (DR.alloc (vs := [.int .i64 p, .int .i64 (g + x), .int .i64 (t + y), .int .i64 0, .bool false]) (T := 82) (K1.out.kept hb)); clear hb K1
          have hL := K2.out.lv.facts
          simp only [liveAt, cellsAt, and_true, Nat.zero_add, Nat.reduceAdd, World.size_alloc] at hL
          go_wp2_with fail
          clear hL
          (with_reducible refine (cs.out _).mono ?_); rintro e v6 ⟨rfl, hb⟩; have K3 := hid (K2.out.kept hb); clear hb K2
          have hL := K3.out.lv.facts
          simp only [liveAt, cellsAt, and_true, Nat.zero_add, Nat.reduceAdd, World.size_alloc] at hL
          go_wp2_with (go_at_call 15; (with_reducible refine (cm.out _).mono ?_); rintro e w9 ⟨rfl, rfl⟩)
          have hDC : D < C := hz
          have K4 := hid (K3.out.drop.drop.set5 (y0 := .int .i64 p) (y1 := .int .i64 (g + x)) (y2 := .int .i64 (t + y)) (y3 := .int .i64 0) (y4 := .bool false) hDC (by simp))
          have HB2 := hid (HB.out.more_in hr x0 x1 y0 y1 (by omega))
          clear hL K3
          go_roundg (gk - 1 - 1)
          case measure => omega
          case rel => exact ⟨_, _, _, _, _, rfl, rfl, rfl, HB2, K4⟩
        · by_cases hp3 : p < q + 1
          · have ct := hid (fun w => ctick_any p (g + x) t q y false w (by omega) (by omega))
            rw [tick_out HV2.out y0 (by omega) he] at ct
            have cs := hid (fun w => cstate_any p (g + x) (g + x) (q + 1) false w)
            rw [state_of (by unfold cvalid; apply decide_eq_true; omega), if_pos hp3] at cs
            have e1 : decide (y ≤ g - t + x) = false := decide_eq_false (by omega)
            have e2 : (y - (g + x - t) == 0) = false := by rw [beq_eq_false_iff_ne]; omega
            have e3 : (q + 1 == 0) = false := by rw [beq_eq_false_iff_ne]; omega
            go_wp2_with fail
            clear hL
            (with_reducible refine (cw.out _).mono ?_); rintro e v4 ⟨rfl, hb⟩; have K1 := hid (DR.alloc (vs := [.int .i64 p, .int .i64 (g + x), .int .i64 t, .int .i64 q, .bool false]) (T := 82) (H3.out.kept hb)); clear hb
            have hL := K1.out.lv.facts
            simp only [liveAt, cellsAt, and_true, Nat.zero_add, Nat.reduceAdd, World.size_alloc] at hL
            go_wp2_with fail
            clear hL
            (with_reducible refine (ct.out _).mono ?_); rintro e v5 ⟨rfl, hb⟩; have K2 := hid (DR.alloc (vs := [.int .i64 p, .int .i64 (g + x), .int .i64 (g + x), .int .i64 (q + 1), .bool false]) (T := 82) (K1.out.kept hb)); clear hb K1
            have hL := K2.out.lv.facts
            simp only [liveAt, cellsAt, and_true, Nat.zero_add, Nat.reduceAdd, World.size_alloc] at hL
            go_wp2_with fail
            clear hL
            (with_reducible refine (cs.out _).mono ?_); rintro e v6 ⟨rfl, hb⟩; have K3 := hid (K2.out.kept hb); clear hb K2
            have hL := K3.out.lv.facts
            simp only [liveAt, cellsAt, and_true, Nat.zero_add, Nat.reduceAdd, World.size_alloc] at hL
            go_wp2_with (go_at_call 15; (with_reducible refine (cm.out _).mono ?_); rintro e w9 ⟨rfl, rfl⟩)
            have hDC : D < C := hz
            have K4 := hid (K3.out.drop.drop.set5 (y0 := .int .i64 p) (y1 := .int .i64 (g + x)) (y2 := .int .i64 (g + x)) (y3 := .int .i64 (q + 1)) (y4 := .bool false) hDC (by simp))
            have HB2 := hid (HB.out.more_out hr x0 x1 y0 y1 (by omega))
            clear hL K3
            go_roundg (gk - 1 - 1)
            case measure => omega
            case rel => exact ⟨_, _, _, _, _, rfl, rfl, rfl, HB2, K4⟩
          · have ct := hid (fun w => ctick_any p (g + x) t q y false w (by omega) (by omega))
            rw [tick_out HV2.out y0 (by omega) he] at ct
            have cs := hid (fun w => cstate_any p (g + x) (g + x) (q + 1) false w)
            rw [state_of (by unfold cvalid; apply decide_eq_true; omega), if_neg hp3, if_pos (by omega)] at cs
            have e1 : decide (y ≤ g - t + x) = false := decide_eq_false (by omega)
            have e2 : (y - (g + x - t) == 0) = false := by rw [beq_eq_false_iff_ne]; omega
            have e3 : (q + 1 == 0) = false := by rw [beq_eq_false_iff_ne]; omega
            go_wp2_with fail
            clear hL
            (with_reducible refine (cw.out _).mono ?_); rintro e v4 ⟨rfl, hb⟩; have K1 := hid (DR.alloc (vs := [.int .i64 p, .int .i64 (g + x), .int .i64 t, .int .i64 q, .bool false]) (T := 82) (H3.out.kept hb)); clear hb
            have hL := K1.out.lv.facts
            simp only [liveAt, cellsAt, and_true, Nat.zero_add, Nat.reduceAdd, World.size_alloc] at hL
            go_wp2_with fail
            clear hL
            (with_reducible refine (ct.out _).mono ?_); rintro e v5 ⟨rfl, hb⟩; have K2 := hid (DR.alloc (vs := [.int .i64 p, .int .i64 (g + x), .int .i64 (g + x), .int .i64 (q + 1), .bool false]) (T := 82) (K1.out.kept hb)); clear hb K1
            have hL := K2.out.lv.facts
            simp only [liveAt, cellsAt, and_true, Nat.zero_add, Nat.reduceAdd, World.size_alloc] at hL
            go_wp2_with fail
            clear hL
            (with_reducible refine (cs.out _).mono ?_); rintro e v6 ⟨rfl, hb⟩; have K3 := hid (K2.out.kept hb); clear hb K2
            have hL := K3.out.lv.facts
            simp only [liveAt, cellsAt, and_true, Nat.zero_add, Nat.reduceAdd, World.size_alloc] at hL
            go_wp2_with (go_at_call 15; (with_reducible refine (cm.out _).mono ?_); rintro e w9 ⟨rfl, rfl⟩)
            have hDC : D < C := hz
            have K4 := hid (K3.out.drop.drop.set5 (y0 := .int .i64 p) (y1 := .int .i64 (g + x)) (y2 := .int .i64 (g + x)) (y3 := .int .i64 (q + 1)) (y4 := .bool false) hDC (by simp))
            have HB2 := hid (HB.out.more_out hr x0 x1 y0 y1 (by omega))
            clear hL K3
            go_roundg (gk - 1 - 1)
            case measure => omega
            case rel => exact ⟨_, _, _, _, _, rfl, rfl, rfl, HB2, K4⟩
      · have hrb : decide (0 < gk) = false := decide_eq_false hr
        obtain ⟨⟨p0, p1⟩, ⟨t0, t1⟩, g0, ⟨n0, n1, n2⟩, ⟨_, s0, s1⟩, r0, r1⟩ := HB.out
        have cd := hid (fun w => cdie_any p g t q false w)
        have cs := hid (fun w => cstate_any p g t q true w)
        rw [show cstate p g t q true = 4 from by unfold cstate; rw [if_neg (by rw [HB.out.valid]; simp), if_pos rfl]] at cs
        have e1 : (n - m == t) = true := by rw [beq_iff_eq]; omega
        have e2 : n - m = t := n1
        have HE := hid e2
        have u1 : n ≤ 12000 := by omega
        have u2 : m ≤ n := by omega
        clear n1 e2
        go_wp2_with fail
        (with_reducible refine (left_dr w D gk _ _ hd.out).mono ?_); rw [hrb]; rintro e v1 ⟨rfl, hd1⟩; have H1 := hid hd1; clear hd1 hd
        have hL := H1.out.lv.facts
        simp only [liveAt, cellsAt, and_true, Nat.zero_add, Nat.reduceAdd, World.size_alloc] at hL
        go_wp2_with (first
          | (go_at_call 51; (with_reducible refine (cd.out _).mono ?_); rintro e v4 ⟨rfl, hb⟩; have K1 := hid (H1.out.kept hb); clear hb)
          | (go_at_call 49; (with_reducible refine (cs.out _).mono ?_); rintro e v5 ⟨rfl, hb⟩; have K2 := hid (K1.out.kept hb); clear hb))
        go_ret
        exact ⟨rfl, K2.out.lv.below⟩
  · have hfb : decide (len ≤ 200) = false := decide_eq_false hf
    go_enter Try.func13, Try.ntmps13
    go_wp2_with (first
      | (go_at_call 45; (with_reducible refine (sane36_any _).mono ?_); rintro e w1 ⟨rfl, hb⟩; have HL := hid ((Lv.start w).kept hb); clear hb)
      | (go_at_call 61; (with_reducible refine (few_any a len cap _ hm).mono ?_); rw [hfb]; rintro e w2 ⟨rfl, rfl⟩))
    go_ret
    exact ⟨rfl, HL.out.below⟩
end Go.Proofs.Ytnfkcfogmficfaa
