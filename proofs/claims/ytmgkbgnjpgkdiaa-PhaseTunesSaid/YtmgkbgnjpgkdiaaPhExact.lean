/- PhaseExact: the walk. No statement is proved here. -/
import Derived.Test.YtmgkbgnjpgkdiaaPhLaws
namespace Go.Proofs.Ytmgkbgnjpgkdiaa
open Go.ChangeShapes Go.WideShapes Go.ChangeAt Go.RowKit
set_option linter.unusedVariables false
set_option linter.unusedSimpArgs false

theorem phV_moved {n d a p f q r : Int} (h : phV n d a p f = true) (hq : 0 ≤ q) (hq2 : q ≤ 1125899906842624) (hr : 0 ≤ r) (hr2 : r < d * 65536) : phV n d a q r = true := by
  obtain ⟨h1, h2, h3, h4, h5, h6⟩ := phV_iff.1 h
  exact phV_iff.2 ⟨h1, h2, h3, h4, ⟨hq, hq2⟩, hr, hr2⟩
theorem phV_tuned {n d a p f b : Int} (h : phV n d a p f = true) (hb : -4096 ≤ b) (hb2 : b ≤ 4096) : phV n d b p f = true := by
  obtain ⟨h1, h2, h3, h4, h5, h6⟩ := phV_iff.1 h
  exact phV_iff.2 ⟨h1, h2, h3, ⟨hb, hb2⟩, h5, h6⟩
theorem Lv.set2 {W w : World} {b : Nat} {T : TypeId} {z0 z1 z2 z3 z4 : Value} {x : Int} {L : List (Nat × List Value × TypeId)} (h : Lv W w ((b, [z0, z1, z2, z3, z4], T) :: L)) (hL : ∀ y ∈ L, y.1 ≠ b) (hb : W.heap.size ≤ b) :
    Lv W (w.setCell ⟨b, 2, none⟩ (.int .i64 x)) ((b, [z0, z1, .int .i64 x, z3, z4], T) :: L) := by
  have hbl : Blk w b [z0, z1, z2, z3, z4] T := h.live.1
  have hs := hbl.set 2 (.int .i64 x)
  have ho : Only b w (w.setCell ⟨b, 2, none⟩ (.int .i64 x)) := only_setCells [.int .i64 x] 2 w
  exact ⟨h.below.trans (ho.below hb h.below.size), hs, h.live.2.turn ho.block hL⟩
theorem Lv.swap {W w : World} {x y : Nat × List Value × TypeId} {L : List (Nat × List Value × TypeId)} (h : Lv W w (x :: y :: L)) : Lv W w (y :: x :: L) := ⟨h.below, h.live.2.1, h.live.1, h.live.2.2⟩
theorem Lv.drop2 {W w : World} {x y : Nat × List Value × TypeId} {L : List (Nat × List Value × TypeId)} (h : Lv W w (x :: y :: L)) : Lv W w (x :: L) := ⟨h.below, h.live.1, h.live.2.2⟩
set_option maxRecDepth 100000 in
set_option maxHeartbeats 16000000 in
theorem phaseExact_walk (a : Option Addr) (len cap : Nat) (l : List Int) (t : Int) (w : World) (hs : Sl .u8 w a len cap l) (ht : 0 ≤ t ∧ t ≤ 255) :
    Calls Try.prog 6 #[.slice a len cap, .int .u8 t] w fun e w' => e = .returned (.bool true) ∧ Below w.heap.size w w' := by
  have HS := hid hs
  clear hs
  obtain ⟨t0, t1⟩ := ht
  have m0 := Int.emod_nonneg t (show (5 : Int) ≠ 0 by omega)
  have m1 := Int.emod_lt_of_pos t (show (0 : Int) < 5 by omega)
  have HL0 := hid (Lv.start w)
  go_enter Try.func6, Try.ntmps6
  go_wp2_with fail
  (with_reducible refine (sane_any _).mono ?_); rintro e w1 ⟨rfl, hb⟩; have HL1 := hid (HL0.out.kept hb); clear hb HL0
  go_wp2_with fail
  (with_reducible refine (made_any a len cap l _ (HS.out.below HL1.out.below)).mono ?_); rintro e w2 ⟨⟨n, d, aa, p, f, rfl, hM⟩, hb⟩; have HL2 := hid (Lv.alloc (vs := [.int .i64 n, .int .i64 d, .int .i64 aa, .int .i64 p, .int .i64 f]) (T := 25) (HL1.out.kept hb)); have hsz2 := (HL1.out.kept hb).size; clear hb HL1
  go_upto_region 4 with (fail)
  generalize w2.alloc (.cells #[.int .i64 n, .int .i64 d, .int .i64 aa, .int .i64 p, .int .i64 f] 25) = W3 at *
  generalize hBP : w2.heap.size = BP at *
  obtain ⟨hv, hp2⟩ := hM
  have hv := phV_tuned (b := 0) hv (by omega) (by omega)
  have hP := phV_P hv
  obtain ⟨⟨n0, n1⟩, ⟨d0, d1⟩, _, ⟨p0, p1⟩, f0, f1⟩ := hP
  have hD := Lv.set2 (x := 0) HL2.out (by simp) hsz2
  have hL := HL2.out.facts
  simp only [liveAt, cellsAt, and_true, Nat.zero_add, Nat.reduceAdd, World.size_alloc] at hL
  clear HL2
  go_upto_region 5 with (fail)
  clear hL
  generalize W3.setCell ⟨BP, 2, none⟩ (.int .i64 0) = W4 at *
  have HL3 := hid hD
  clear hD
  have hL := HL3.out.facts
  simp only [liveAt, cellsAt, and_true, Nat.zero_add, Nat.reduceAdd, World.size_alloc] at hL
  by_cases hd2 : 2000 < d
  · have e1 : decide (2000 < d) = true := decide_eq_true hd2
    go_wp2_with fail
    go_ret
    exact ⟨rfl, HL3.out.below⟩
  · have e1 : decide (2000 < d) = false := decide_eq_false hd2
    have HV := hid hv
    have HL4 := hid (Lv.alloc (vs := [.int .i64 n, .int .i64 d, .int .i64 0, .int .i64 p, .int .i64 f]) (T := 25) HL3.out)
    have hlt := HL3.out.lt
    have hz := HL3.out.size
    clear HL3 hv
    go_upto_region 9 with (fail)
    clear hL
    generalize W4.alloc (.cells #[.int .i64 n, .int .i64 d, .int .i64 0, .int .i64 p, .int .i64 f] 25) = W5 at *
    generalize W4.heap.size = BQ at *
    go_wp2_with fail
    go_loopw [8] (fun v wr => ∃ (k : Nat) (q : Int), (k : Int) ≤ t % 5 ∧ v = .int .i64 k ∧ Hid (q = p + k * n) ∧ Hid (Lv w wr [(BQ, [.int .i64 n, .int .i64 d, .int .i64 0, .int .i64 q, .int .i64 f], 25), (BP, [.int .i64 n, .int .i64 d, .int .i64 0, .int .i64 p, .int .i64 f], 25)])) (fun v _ => 5 - (intOf v).toNat)
    case atStart => exact ⟨0, p, by omega, rfl, by show p = p + ((0 : Nat) : Int) * n; simp, HL4⟩
    case round =>
      obtain ⟨k, q, hk, rfl, hq, hl⟩ := hrel
      clear HL4
      obtain ⟨wo, rfl⟩ : ∃ wo : World, wo = wr := ⟨_, rfl⟩
      have hkn : 0 ≤ (k : Int) * n ∧ (k : Int) * n ≤ 4 * 768000 := ⟨Int.mul_nonneg (by omega) (by omega), Int.mul_le_mul (by omega) n1 (by omega) (by omega)⟩
      have hq2 := hq.out
      by_cases hlt2 : (k : Int) < t % 5
      · have e2 : decide ((k : Int) < t % 5) = true := decide_eq_true hlt2
        have hvq : phV n d 0 q f = true := phV_moved HV.out (by omega) (by omega) f0 f1
        obtain ⟨w1', w2'⟩ := whole (n := n) (d := d) (f := f) d0 f0 f1
        have c1 := hid (fun w => adv_ok n d 0 q f d hvq (by omega) (by omega) (by rw [w1']; omega) w)
        rw [w1', w2'] at c1
        have hqn := hid (show q + n = p + ((k + 1 : Nat) : Int) * n by rw [hq2, Int.natCast_add, Int.add_mul]; omega)
        generalize q + n = q' at *
        clear hq2 hkn hvq w1' w2'
        have hL := hl.out.facts
        simp only [liveAt, cellsAt, and_true, Nat.zero_add, Nat.reduceAdd, World.size_alloc] at hL
        go_wp2_with fail
        (with_reducible refine (c1.out _).mono ?_); rintro e w3 ⟨rfl, hb⟩; have hk1 := (hl.out.kept hb).lt; have hk2 := (hl.out.kept hb).drop.lt; have K1 := hid (Lv.alloc (vs := [.int .i64 n, .int .i64 d, .int .i64 0, .int .i64 q', .int .i64 f]) (T := 25) (hl.out.kept hb)); clear hb c1 hL
        clear hl
        go_upto_region 15 with (fail)
        generalize w3.alloc (.cells #[.int .i64 n, .int .i64 d, .int .i64 0, .int .i64 q', .int .i64 f] 25) = W6 at *
        generalize w3.heap.size = BN at *
        have hD := Lv.drop2 (Lv.set5 (x0 := n) (x1 := d) (x2 := 0) (x3 := q') (x4 := f) K1.out.swap (by simp; omega) (by omega))
        have hL := K1.out.facts
        simp only [liveAt, cellsAt, and_true, Nat.zero_add, Nat.reduceAdd, World.size_alloc] at hL
        have K2 := hid hD
        clear hD K1
        go_wp2_with fail
        go_roundw
        case rel => first | exact ⟨k + 1, q', by omega, by go_num, hqn, K2⟩ | ((repeat apply Exists.intro); exact ⟨⟨k + 1, q', by omega, by go_num, hqn, K2⟩, rfl⟩)
        case measure => simp [intOf]; omega
      · have e2 : decide ((k : Int) < t % 5) = false := decide_eq_false hlt2
        obtain rfl : q = p + t % 5 * n := by rw [hq2, show (k : Int) = t % 5 by omega]
        have hkt : (k : Int) = t % 5 := by omega
        rw [hkt] at hkn
        have u1 : IntKind.i64.wrap (t % 5 * n) = t % 5 * n := IntWalk.i64_in _ (by omega)
        have u2 : IntKind.i64.wrap (p + t % 5 * n) = p + t % 5 * n := IntWalk.i64_in _ (by omega)
        generalize hX : t % 5 * n = X at *
        have u3 : wrap64 X = X := by unfold wrap64; omega
        have u4 : wrap64 (p + X) = p + X := by unfold wrap64; omega
        have hL := hl.out.facts
        simp only [liveAt, cellsAt, and_true, Nat.zero_add, Nat.reduceAdd, World.size_alloc] at hL
        have e3 : (p + X == p + X) = true := by simp
        have e4 : (f == f) = true := by simp
        clear hkn hq2 hq hkt
        go_wp2_with fail
        go_ret
        exact ⟨rfl, hl.out.below⟩
end Go.Proofs.Ytmgkbgnjpgkdiaa
