/- PlugMoves: the walk. -/
import Derived.Test.YtnfkcfogmficfaaPlugFades
import Derived.Deep.DeepCutAuto
namespace Go.Proofs.Ytnfkcfogmficfaa
open Go.ChangeShapes Go.WideShapes Go.ChangeAt Go.RowKit
set_option linter.unusedVariables false
set_option linter.unusedSimpArgs false

theorem pick2i {W w : World} {b : Nat} {T : TypeId} {x0 x1 : Int} {L : List (Nat × List Value × TypeId)} (h : Lv W w ((b, [.int .i64 x0, .int .i64 x1], T) :: L)) (k : Nat) (hk : k < 2) : ∃ x : Int, w.cell? ⟨b, k, none⟩ = some (.int .i64 x) := by
  have hL := h.facts
  simp only [liveAt, cellsAt, Nat.zero_add] at hL
  obtain ⟨⟨y0, _, y1, _⟩, _⟩ := hL
  match k, hk with
  | 0, _ => exact ⟨x0, y0⟩
  | 1, _ => exact ⟨x1, y1⟩
theorem pickM {W w : World} {b : Nat} {T : TypeId} {a0 a1 a2 a3 a4 b0 b1 b2 b3 b4 : Int} {L : List (Nat × List Value × TypeId)} (h : Lv W w ((b, [.int .i64 a0, .int .u64 a1, .int .u64 a2, .int .i64 a3, .int .i64 a4, .int .i64 b0, .int .u64 b1, .int .u64 b2, .int .i64 b3, .int .i64 b4], T) :: L)) (ha : -9223372036854775808 ≤ a4 ∧ a4 ≤ 9223372036854775807) (hb : -9223372036854775808 ≤ b4 ∧ b4 ≤ 9223372036854775807) (k : Nat) (hk : k < 2) :
    ∃ s f t p l : Int, w.cell? ⟨b, k * 5, none⟩ = some (.int .i64 s) ∧ w.cell? ⟨b, k * 5 + 1, none⟩ = some (.int .u64 f) ∧ w.cell? ⟨b, k * 5 + 2, none⟩ = some (.int .u64 t) ∧ w.cell? ⟨b, k * 5 + 3, none⟩ = some (.int .i64 p) ∧ w.cell? ⟨b, k * 5 + 4, none⟩ = some (.int .i64 l) ∧ (-9223372036854775808 ≤ l ∧ l ≤ 9223372036854775807) := by
  have hL := h.facts
  simp only [liveAt, cellsAt, Nat.zero_add, Nat.reduceAdd] at hL
  obtain ⟨⟨c0, _, c1, _, c2, _, c3, _, c4, _, c5, _, c6, _, c7, _, c8, _, c9, _⟩, _⟩ := hL
  match k, hk with
  | 0, _ => exact ⟨_, _, _, _, _, c0, c1, c2, c3, c4, ha⟩
  | 1, _ => exact ⟨_, _, _, _, _, c5, c6, c7, c8, c9, hb⟩
set_option maxRecDepth 100000 in
set_option maxHeartbeats 16000000 in
theorem plugMoves_walk (s0 f0 t0 p0 l0 st fr0 to0 fd k0 : Int) (w : World) (hl0 : -9223372036854775808 ≤ l0 ∧ l0 ≤ 9223372036854775807) (hf : 0 ≤ fr0 ∧ fr0 ≤ 18446744073709551615) (ht : 0 ≤ to0 ∧ to0 ≤ 18446744073709551615) (hk : -9223372036854775808 ≤ k0 ∧ k0 ≤ 9223372036854775807) :
    Calls Try.prog 8 #[.agg #[.int .i64 s0, .int .u64 f0, .int .u64 t0, .int .i64 p0, .int .i64 l0], .int .i64 st, .int .u64 fr0, .int .u64 to0, .int .i64 fd, .int .i64 k0] w fun e w' => e = .returned (.bool true) ∧ Below w.heap.size w w' := by
  obtain ⟨f1, f2⟩ := hf
  obtain ⟨t1, t2⟩ := ht
  obtain ⟨k1, k2⟩ := hk
  have HB0 := hid hl0
  clear hl0
  have c1 := hid (fun w => mod_any k0 5 (by omega) (by omega) w)
  have c2 := hid (fun v w => mod_any v 4 (by omega) (by omega) w)
  have c3 := hid (fun w => mod_any fd 5 (by omega) (by omega) w)
  have m1 := Int.emod_nonneg fd (show (5 : Int) ≠ 0 by omega)
  have m2 := Int.emod_lt_of_pos fd (show (0 : Int) < 5 by omega)
  generalize k0 % 5 = kp at *
  generalize fd % 5 = fm at *
  have HL0 := hid (Lv.alloc (vs := [.int .i64 s0, .int .u64 f0, .int .u64 t0, .int .i64 p0, .int .i64 l0]) (T := 72) (Lv.start w))
  go_enter Try.func8, Try.ntmps8
  go_wp2_with (first
    | (go_at_call 27; (with_reducible refine (sane33_any _).mono ?_); rintro e w1 ⟨rfl, hb⟩; have HL1 := hid (HL0.out.kept hb); clear hb)
    | (go_at_call 15; (with_reducible refine (c1.out _).mono ?_); rintro e w2 ⟨rfl, rfl⟩)
    | (go_at_call 15; (with_reducible refine (c3.out _).mono ?_); rintro e w2 ⟨rfl, rfl⟩)
    | (go_at_call 15; (with_reducible refine (c2.out _ _).mono ?_); rintro e w2 ⟨rfl, rfl⟩))
  have j1 := Int.emod_nonneg (k0.tdiv 5) (show (4 : Int) ≠ 0 by omega)
  have j2 := Int.emod_lt_of_pos (k0.tdiv 5) (show (0 : Int) < 4 by omega)
  generalize fr0 % 3 = fr at *
  generalize to0 % 3 = tr at *
  generalize k0.tdiv 5 % 4 = kl at *
  have hl2 := Lv.alloc (vs := [.int .i64 fd, .int .i64 (1 + fm)]) (T := 3) (Lv.alloc (vs := [.int .i64 st, .int .u64 fr, .int .u64 tr, .int .i64 kp, .int .i64 kl]) (T := 72) HL1.out)
  simp only [World.size_alloc] at hl2
  have HL2 := hid hl2
  clear hl2 HL1 HL0 c1 c2 c3
  generalize (w1.alloc (.cells #[.int .i64 st, .int .u64 fr, .int .u64 tr, .int .i64 kp, .int .i64 kl] 72)).alloc (.cells #[.int .i64 fd, .int .i64 (1 + fm)] 3) = W2 at *
  generalize w1.heap.size + 1 = BN at *
  generalize w1.heap.size = BX at *
  have HKL := hid (show -9223372036854775808 ≤ kl ∧ kl ≤ 9223372036854775807 from ⟨by omega, by omega⟩)
  go_loopw [41] (fun i wr => ∃ x : Nat, x ≤ 2 ∧ i = .int .i64 x ∧ Hid (Lv w wr [(BN, [.int .i64 fd, .int .i64 (1 + fm)], 3), (BX, [.int .i64 st, .int .u64 fr, .int .u64 tr, .int .i64 kp, .int .i64 kl], 72), (w.heap.size, [.int .i64 s0, .int .u64 f0, .int .u64 t0, .int .i64 p0, .int .i64 l0], 72)])) (fun i _ => 2 - (intOf i).toNat)
  case atStart => exact ⟨0, by omega, rfl, HL2⟩
  case round =>
    obtain ⟨x, hx, rfl, hl⟩ := hrel
    clear HL2
    obtain ⟨wo, rfl⟩ : ∃ wo : World, wo = wr := ⟨_, rfl⟩
    by_cases hlt : x < 2
    · obtain ⟨N, g0⟩ := pick2i hl.out x hlt
      have hkb : decide ((x : Int) < 2) = true := by simp; omega
      have hL := hl.out.facts
      simp only [liveAt, cellsAt, and_true, Nat.zero_add, Nat.reduceAdd, World.size_alloc] at hL
      have HL3 := hid (Lv.alloc (vs := [.int .i64 s0, .int .u64 f0, .int .u64 t0, .int .i64 p0, .int .i64 l0, .int .i64 st, .int .u64 fr, .int .u64 tr, .int .i64 kp, .int .i64 kl]) (T := 72) hl.out)
      go_upto_region 8 with (fail)
      clear g0 hL hl
      generalize wo.alloc (.cells #[.int .i64 s0, .int .u64 f0, .int .u64 t0, .int .i64 p0, .int .i64 l0, .int .i64 st, .int .u64 fr, .int .u64 tr, .int .i64 kp, .int .i64 kl] 72) = W3 at *
      generalize wo.heap.size = BL at *
      go_loopw [49] (fun i wr => ∃ z : Nat, z ≤ 2 ∧ i = .int .i64 z ∧ Hid (Lv w wr [(BL, [.int .i64 s0, .int .u64 f0, .int .u64 t0, .int .i64 p0, .int .i64 l0, .int .i64 st, .int .u64 fr, .int .u64 tr, .int .i64 kp, .int .i64 kl], 72), (BN, [.int .i64 fd, .int .i64 (1 + fm)], 3), (BX, [.int .i64 st, .int .u64 fr, .int .u64 tr, .int .i64 kp, .int .i64 kl], 72), (w.heap.size, [.int .i64 s0, .int .u64 f0, .int .u64 t0, .int .i64 p0, .int .i64 l0], 72)])) (fun i _ => 2 - (intOf i).toNat)
      case atStart => exact ⟨0, by omega, rfl, HL3⟩
      case round =>
        obtain ⟨z, hz, rfl, hl⟩ := hrel
        clear HL3
        obtain ⟨wp, rfl⟩ : ∃ wp : World, wp = wr := ⟨_, rfl⟩
        by_cases hlt2 : z < 2
        · obtain ⟨ys, yf, yt, yp, yl, g0, g1, g2, g3, g4, hyl⟩ := pickM hl.out HB0.out HKL.out z hlt2
          have hjb : decide ((z : Int) < 2) = true := by simp; omega
          have d1 := hid (fun w => adv_any ys yf yt yp yl N w hyl)
          have d2 := hid (fun w => radv_any ys yf yt yp yl N w hyl)
          have d3 := hid (fun w => wan_any ys yf yt yp yl w)
          have d4 := hid (fun w => rwan_any ys yf yt yp yl w)
          clear hyl
          generalize adv yt yp yl N = V1 at *
          generalize wan yf yt yp = V2 at *
          obtain ⟨A1, A2⟩ := V1
          obtain ⟨D1, D2⟩ := V2
          simp only at d1 d2 d3 d4
          have HL4 := hid (Lv.alloc (vs := [.int .i64 ys, .int .u64 yf, .int .u64 yt, .int .i64 yp, .int .i64 yl]) (T := 72) hl.out)
          go_upto_region 10 with (fail)
          clear g0 g1 g2 g3 g4 hl
          generalize wp.alloc (.cells #[.int .i64 ys, .int .u64 yf, .int .u64 yt, .int .i64 yp, .int .i64 yl] 72) = W4 at *
          generalize wp.heap.size = BY at *
          have hl := HL4.out
          have hc := cellsM hl
          have hl := hl.drew
          have hc := cellsM hl
          clear HL4
          go_region_held3 (fun w' => w'.cell? ⟨BY, 0, none⟩ = some (.int .i64 ys) ∧ w'.cell? ⟨BY, 1, none⟩ = some (.int .u64 yf) ∧ w'.cell? ⟨BY, 2, none⟩ = some (.int .u64 yt) ∧ w'.cell? ⟨BY, 3, none⟩ = some (.int .i64 yp) ∧ w'.cell? ⟨BY, 4, none⟩ = some (.int .i64 yl)) (first | assumption | exact cellsM (by assumption)) (first
            | (go_at_call 39; (with_reducible refine (d1.out _).mono ?_); rintro e w8 ⟨rfl, hb⟩; have hl := Lv.kept (by assumption) hb; clear hb)
            | (go_at_call 40; (with_reducible refine (d2.out _).mono ?_); rintro e w8 ⟨rfl, hb⟩; have hl := Lv.kept (by assumption) hb; clear hb))
          have K1 := hid hl
          clear hl d1 d2
          have hL := K1.out.facts
          simp only [liveAt, cellsAt, and_true, Nat.zero_add, Nat.reduceAdd, World.size_alloc] at hL
          go_wp2_with fail
          (with_reducible refine (d3.out _).mono ?_); rintro e v1 ⟨rfl, hb⟩; have K2 := hid (K1.out.kept hb); clear hb K1 d3 hL
          have hL := K2.out.facts
          simp only [liveAt, cellsAt, and_true, Nat.zero_add, Nat.reduceAdd, World.size_alloc] at hL
          go_wp2_with fail
          (with_reducible refine (d4.out _).mono ?_); rintro e v2 ⟨rfl, hb⟩; have K3 := hid (K2.out.kept hb); clear hb K2 d4 hL
          go_wp2_with fail
          have K9 := hid K3.out.drop
          clear K3
          go_roundw
          case rel => first | exact ⟨z + 1, by omega, by go_num, K9⟩ | ((repeat apply Exists.intro); exact ⟨⟨z + 1, by omega, by go_num, K9⟩, rfl⟩)
          case measure => simp [intOf]; omega
        · have e1 := hid (fun w => beg_any st fr0 to0 N w)
          have e2 := hid (fun w => rbeg_any st fr0 to0 N w)
          have e3 := hid (fun w => beg_any st (fr0 % 2) (to0 % 2) N w)
          have e4 := hid (fun w => rbeg_any st (fr0 % 2) (to0 % 2) N w)
          generalize beg fr0 to0 N = V1 at *
          generalize beg (fr0 % 2) (to0 % 2) N = V2 at *
          obtain ⟨A1, A2⟩ := V1
          obtain ⟨D1, D2⟩ := V2
          simp only at e1 e2 e3 e4
          go_wp2_with fail
          (with_reducible refine (e1.out _).mono ?_); rintro e v1 ⟨rfl, hb⟩; have K1 := hid (hl.out.kept hb); clear hb hl e1
          go_wp2_with fail
          (with_reducible refine (e2.out _).mono ?_); rintro e v2 ⟨rfl, hb⟩; have K2 := hid (K1.out.kept hb); clear hb K1 e2
          go_wp2_with fail
          (with_reducible refine (e3.out _).mono ?_); rintro e v3 ⟨rfl, hb⟩; have K3 := hid (K2.out.kept hb); clear hb K2 e3
          go_wp2_with fail
          (with_reducible refine (e4.out _).mono ?_); rintro e v4 ⟨rfl, hb⟩; have K4 := hid (K3.out.kept hb); clear hb K3 e4
          go_wp2_with fail
          have K9 := hid K4.out.drop
          clear K4
          go_roundw
          case rel => first | exact ⟨x + 1, by omega, by go_num, K9⟩ | ((repeat apply Exists.intro); exact ⟨⟨x + 1, by omega, by go_num, K9⟩, rfl⟩)
          case measure => simp [intOf]; omega
    · go_wp2_with fail
      go_ret
      exact ⟨rfl, hl.out.below⟩
end Go.Proofs.Ytnfkcfogmficfaa
