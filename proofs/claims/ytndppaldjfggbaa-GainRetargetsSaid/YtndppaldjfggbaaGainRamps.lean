/- GainRamps: the walk. -/
import Derived.Test.YtndppaldjfggbaaGainMade
import Derived.Test.YtndppaldjfggbaaLive
import Derived.Deep.RegionHeld3
import Derived.Deep.DeepCutAuto
namespace Go.Proofs.Ytndppaldjfggbaa
open Go.ChangeShapes Go.WideShapes Go.ChangeAt Go.RowKit
set_option linter.unusedVariables false
set_option linter.unusedSimpArgs false

theorem cells4g {W w : World} {b : Nat} {T : TypeId} {x0 x1 x2 x3 : Int} {L : List (Nat × List Value × TypeId)} (h : Lv W w ((b, [.int .i64 x0, .int .i64 x1, .int .i64 x2, .int .i64 x3], T) :: L)) : w.cell? ⟨b, 0, none⟩ = some (.int .i64 x0) ∧ w.cell? ⟨b, 1, none⟩ = some (.int .i64 x1) ∧ w.cell? ⟨b, 2, none⟩ = some (.int .i64 x2) ∧ w.cell? ⟨b, 3, none⟩ = some (.int .i64 x3) := by
  have hL := h.facts
  simp only [liveAt, cellsAt, Nat.zero_add, Nat.reduceAdd] at hL
  exact ⟨hL.1.1, hL.1.2.2.1, hL.1.2.2.2.2.1, hL.1.2.2.2.2.2.2.1⟩
theorem cells12g {W w : World} {b c d : Nat} {T : TypeId} {x0 x1 x2 x3 y0 y1 y2 y3 z0 z1 z2 z3 : Int} {L : List (Nat × List Value × TypeId)} (h : Lv W w ((b, [.int .i64 x0, .int .i64 x1, .int .i64 x2, .int .i64 x3], T) :: (c, [.int .i64 y0, .int .i64 y1, .int .i64 y2, .int .i64 y3], T) :: (d, [.int .i64 z0, .int .i64 z1, .int .i64 z2, .int .i64 z3], T) :: L)) : w.cell? ⟨b, 0, none⟩ = some (.int .i64 x0) ∧ w.cell? ⟨b, 1, none⟩ = some (.int .i64 x1) ∧ w.cell? ⟨b, 2, none⟩ = some (.int .i64 x2) ∧ w.cell? ⟨b, 3, none⟩ = some (.int .i64 x3) ∧ w.cell? ⟨c, 0, none⟩ = some (.int .i64 y0) ∧ w.cell? ⟨c, 1, none⟩ = some (.int .i64 y1) ∧ w.cell? ⟨c, 2, none⟩ = some (.int .i64 y2) ∧ w.cell? ⟨c, 3, none⟩ = some (.int .i64 y3) ∧ w.cell? ⟨d, 0, none⟩ = some (.int .i64 z0) ∧ w.cell? ⟨d, 1, none⟩ = some (.int .i64 z1) ∧ w.cell? ⟨d, 2, none⟩ = some (.int .i64 z2) ∧ w.cell? ⟨d, 3, none⟩ = some (.int .i64 z3) := by
  obtain ⟨a0, a1, a2, a3⟩ := cells4g h
  obtain ⟨b0, b1, b2, b3⟩ := cells4g h.drop
  obtain ⟨c0, c1, c2, c3⟩ := cells4g h.drop.drop
  exact ⟨a0, a1, a2, a3, b0, b1, b2, b3, c0, c1, c2, c3⟩
theorem Lv.turned {W w w' : World} {d : Nat} {L : List (Nat × List Value × TypeId)} (h : Lv W w L) (hb : But d w w') (hd : W.heap.size ≤ d) (hL : ∀ x ∈ L, x.1 ≠ d) : Lv W w' L :=
  h.turn d hb.os hb.tape hb.output hb.size hb.block hd hL
theorem pick8g {W w : World} {b : Nat} {T : TypeId} {a0 a1 a2 a3 b0 b1 b2 b3 : Int} {L : List (Nat × List Value × TypeId)} (h : Lv W w ((b, [.int .i64 a0, .int .i64 a1, .int .i64 a2, .int .i64 a3, .int .i64 b0, .int .i64 b1, .int .i64 b2, .int .i64 b3], T) :: L)) (k : Nat) (hk : k < 2) :
    ∃ f t n a : Int, w.cell? ⟨b, k * 4, none⟩ = some (.int .i64 f) ∧ w.cell? ⟨b, k * 4 + 1, none⟩ = some (.int .i64 t) ∧ w.cell? ⟨b, k * 4 + 2, none⟩ = some (.int .i64 n) ∧ w.cell? ⟨b, k * 4 + 3, none⟩ = some (.int .i64 a) := by
  have hL := h.facts
  simp only [liveAt, cellsAt, Nat.zero_add, Nat.reduceAdd] at hL
  obtain ⟨⟨c0, _, c1, _, c2, _, c3, _, c4, _, c5, _, c6, _, c7, _⟩, _⟩ := hL
  match k, hk with
  | 0, _ => exact ⟨_, _, _, _, c0, c1, c2, c3⟩
  | 1, _ => exact ⟨_, _, _, _, c4, c5, c6, c7⟩
theorem pick2g {W w : World} {b : Nat} {T : TypeId} {x0 x1 : Int} {L : List (Nat × List Value × TypeId)} (h : Lv W w ((b, [.int .i64 x0, .int .i64 x1], T) :: L)) (h0 : x0 ≤ 9223372036854775807) (h1 : x1 ≤ 9223372036854775807) (k : Nat) (hk : k < 2) : ∃ x : Int, w.cell? ⟨b, k, none⟩ = some (.int .i64 x) ∧ x ≤ 9223372036854775807 := by
  have hL := h.facts
  simp only [liveAt, cellsAt, Nat.zero_add] at hL
  obtain ⟨⟨y0, _, y1, _⟩, _⟩ := hL
  match k, hk with
  | 0, _ => exact ⟨x0, y0, h0⟩
  | 1, _ => exact ⟨x1, y1, h1⟩
set_option maxRecDepth 100000 in
set_option maxHeartbeats 16000000 in
theorem gainRamps_walk (r0 r1 r2 r3 : Int) (a : Option Addr) (len cap : Nat) (l : List Int) (i tg fr : Int) (w : World) (hs : Sl .u8 w a len cap l) (hi : -9223372036854775808 ≤ i ∧ i ≤ 9223372036854775807) :
    Calls Try.prog 4 #[.agg #[.int .i64 r0, .int .i64 r1, .int .i64 r2, .int .i64 r3], .slice a len cap, .int .i64 i, .int .i64 tg, .int .i64 fr] w fun e w' => e = .returned (.bool true) ∧ Below w.heap.size w w' := by
  have HS := hid hs
  clear hs
  obtain ⟨i1, i2⟩ := hi
  have HL0 := hid (Lv.alloc (vs := [.int .i64 r0, .int .i64 r1, .int .i64 r2, .int .i64 r3]) (T := 31) (Lv.start w))
  go_enter Try.func4, Try.ntmps4
  go_wp2_with fail
  (with_reducible refine (sane_any _).mono ?_); rintro e w1 ⟨rfl, hb⟩; have HL1 := hid (HL0.out.kept hb); clear hb HL0
  go_upto_region 3 with (fail)
  have hl := HL1.out.drew
  have hc := cells4g hl
  clear HL1
  go_region_held3 (fun w' => w'.cell? ⟨w.heap.size, 0, none⟩ = some (.int .i64 r0) ∧ w'.cell? ⟨w.heap.size, 1, none⟩ = some (.int .i64 r1) ∧ w'.cell? ⟨w.heap.size, 2, none⟩ = some (.int .i64 r2) ∧ w'.cell? ⟨w.heap.size, 3, none⟩ = some (.int .i64 r3)) (first | assumption | exact cells4g (by assumption) | go_keep) (first
    | (go_at_call 21; (with_reducible refine (new_any a len cap l _ (HS.out.below (Lv.below (by assumption)))).mono ?_); rintro e w7 ⟨d, rfl, hd0, hdk, hb⟩; have hlt := Lv.lt hl; have hl := Lv.kept hl hb; clear hb)
    | (go_at_call 20; (with_reducible refine (ramp_any _ d hdk).mono ?_); rintro e w8 ⟨⟨f, t, n, ra, rfl, hRb, ra0, ra1⟩, _, hbt⟩; have hl := Lv.turned hl hbt (by omega) (by simp; omega); clear hbt hdk))
  have hl2 := Lv.alloc (vs := [.int .i64 r0, .int .i64 r1, .int .i64 r2, .int .i64 r3, .int .i64 f, .int .i64 t, .int .i64 n, .int .i64 ra]) (T := 31) hl
  have HL2 := hid hl2
  clear hl2 hc hlt hRb ra0 ra1
  clear hl
  have m0 : i.tmod 16 < 16 := Int.tmod_lt_of_pos i (by omega)
  have HM := hid (show i.tmod 16 ≤ 9223372036854775807 by omega)
  have HI := hid i2
  clear m0
  go_upto_region 4 with (fail)
  generalize w8.alloc (.cells #[.int .i64 r0, .int .i64 r1, .int .i64 r2, .int .i64 r3, .int .i64 f, .int .i64 t, .int .i64 n, .int .i64 ra] 31) = W2 at *
  generalize w8.heap.size = BL at *
  go_loopw [27] (fun v wr => ∃ x : Nat, x ≤ 2 ∧ v = .int .i64 x ∧ Hid (Lv w wr [(BL, [.int .i64 r0, .int .i64 r1, .int .i64 r2, .int .i64 r3, .int .i64 f, .int .i64 t, .int .i64 n, .int .i64 ra], 31), (w.heap.size, [.int .i64 r0, .int .i64 r1, .int .i64 r2, .int .i64 r3], 31)])) (fun v _ => 2 - (intOf v).toNat)
  case atStart => exact ⟨0, by omega, rfl, HL2⟩
  case round =>
    obtain ⟨x, hx, rfl, hl⟩ := hrel
    clear HL2
    obtain ⟨wo, rfl⟩ : ∃ wo : World, wo = wr := ⟨_, rfl⟩
    by_cases hlt : x < 2
    · obtain ⟨xf, xt, xn, xa, g0, g1, g2, g3⟩ := pick8g hl.out x hlt
      have hkb : decide ((x : Int) < 2) = true := by simp; omega
      have hl3 := Lv.alloc (vs := [.int .i64 i, .int .i64 (i.tmod 16)]) (T := 3) (Lv.alloc (vs := [.int .i64 xf, .int .i64 xt, .int .i64 xn, .int .i64 xa]) (T := 31) hl.out)
      simp only [World.size_alloc] at hl3
      have HL3 := hid hl3
      clear hl3
      go_upto_region 7 with (fail)
      clear g0 g1 g2 g3 hl
      have hBX : wo.heap.size + 1 ≠ wo.heap.size := by omega
      generalize (wo.alloc (.cells #[.int .i64 xf, .int .i64 xt, .int .i64 xn, .int .i64 xa] 31)).alloc (.cells #[.int .i64 i, .int .i64 (i.tmod 16)] 3) = W3 at *
      generalize wo.heap.size + 1 = BK at *
      generalize wo.heap.size = BX at *
      go_loopw [36] (fun v wr => ∃ y : Nat, y ≤ 2 ∧ v = .int .i64 y ∧ Hid (Lv w wr [(BK, [.int .i64 i, .int .i64 (i.tmod 16)], 3), (BX, [.int .i64 xf, .int .i64 xt, .int .i64 xn, .int .i64 xa], 31), (BL, [.int .i64 r0, .int .i64 r1, .int .i64 r2, .int .i64 r3, .int .i64 f, .int .i64 t, .int .i64 n, .int .i64 ra], 31), (w.heap.size, [.int .i64 r0, .int .i64 r1, .int .i64 r2, .int .i64 r3], 31)])) (fun v _ => 2 - (intOf v).toNat)
      case atStart => exact ⟨0, by omega, rfl, HL3⟩
      case round =>
        obtain ⟨y, hy, rfl, hl⟩ := hrel
        clear HL3
        obtain ⟨wp, rfl⟩ : ∃ wp : World, wp = wr := ⟨_, rfl⟩
        by_cases hlt2 : y < 2
        · obtain ⟨k, g0, hk⟩ := pick2g hl.out HI.out HM.out y hlt2
          have hjb : decide ((y : Int) < 2) = true := by simp; omega
          have d1 := hid (fun w => at_any xf xt xn xa k hk w)
          have d2 := hid (fun w => rat_any xf xt xn xa k hk w)
          clear hk
          generalize atAny xf xt xn xa k = V at *
          go_upto_region 9 with (fail)
          clear g0
          have hl := hl.out
          have hc := cells4g hl.drop
          have hl := hl.drew
          have hc := cells4g hl.drop
          go_region_held3 (fun w' => w'.cell? ⟨BX, 0, none⟩ = some (.int .i64 xf) ∧ w'.cell? ⟨BX, 1, none⟩ = some (.int .i64 xt) ∧ w'.cell? ⟨BX, 2, none⟩ = some (.int .i64 xn) ∧ w'.cell? ⟨BX, 3, none⟩ = some (.int .i64 xa)) (first | assumption | exact cells4g (Lv.drop (by assumption))) (first
            | (go_at_call 22; (with_reducible refine (d1.out _).mono ?_); rintro e w8 ⟨rfl, hb⟩; have hl := Lv.kept (by assumption) hb; clear hb)
            | (go_at_call 23; (with_reducible refine (d2.out _).mono ?_); rintro e w8 ⟨rfl, hb⟩; have hl := Lv.kept (by assumption) hb; clear hb))
          have K1 := hid hl
          clear hl d1 d2 hc
          go_wp2_with fail
          go_roundw
          case rel => first | exact ⟨y + 1, by omega, by go_num, K1⟩ | ((repeat apply Exists.intro); exact ⟨⟨y + 1, by omega, by go_num, K1⟩, rfl⟩)
          case measure => simp [intOf]; omega
        · have e1 := hid (fun w => ret_any xf xt xn xa tg fr w)
          have e2 := hid (fun w => rret_any xf xt xn xa tg fr w)
          have e3 := hid (fun w => valid_any xf xt xn xa w)
          have e4 := hid (fun w => rvalid_any xf xt xn xa w)
          generalize retG xf xt xn xa tg fr = V1 at *
          generalize validG xf xt xn xa = V2 at *
          obtain ⟨⟨A1, A2, A3, A4⟩, A5⟩ := V1
          simp only at e1 e2
          have K0 := hid hl.out.drop
          clear hl
          have hL := K0.out.facts
          simp only [liveAt, cellsAt, and_true, Nat.zero_add, Nat.reduceAdd, World.size_alloc] at hL
          go_wp2_with fail
          (with_reducible refine (e1.out _).mono ?_); rintro e v1 ⟨rfl, hb⟩; have K1 := hid (Lv.alloc (vs := [.int .i64 A1, .int .i64 A2, .int .i64 A3, .int .i64 A4]) (T := 31) (K0.out.kept hb)); clear hb K0 e1 hL
          have hL := K1.out.facts
          simp only [liveAt, cellsAt, and_true, Nat.zero_add, Nat.reduceAdd, World.size_alloc] at hL
          go_wp2_with fail
          (with_reducible refine (e2.out _).mono ?_); rintro e v2 ⟨rfl, hb⟩; have K2 := hid (Lv.alloc (vs := [.int .i64 A1, .int .i64 A2, .int .i64 A3, .int .i64 A4]) (T := 31) (K1.out.kept hb)); clear hb K1 e2 hL
          go_upto_region 14 with (fail)

          generalize v2.alloc (.cells #[.int .i64 A1, .int .i64 A2, .int .i64 A3, .int .i64 A4] 31) = W5 at *
          generalize v2.heap.size = B17 at *
          generalize v1.heap.size = B15 at *
          have hl := K2.out.drew
          have hc := cells12g hl
          clear K2
          have v1 : (V2 != V2) = false := by simp
          have v2 : (A5 != A5) = false := by simp
          go_region_held3 (fun w' => w'.cell? ⟨B17, 0, none⟩ = some (.int .i64 A1) ∧ w'.cell? ⟨B17, 1, none⟩ = some (.int .i64 A2) ∧ w'.cell? ⟨B17, 2, none⟩ = some (.int .i64 A3) ∧ w'.cell? ⟨B17, 3, none⟩ = some (.int .i64 A4) ∧ w'.cell? ⟨B15, 0, none⟩ = some (.int .i64 A1) ∧ w'.cell? ⟨B15, 1, none⟩ = some (.int .i64 A2) ∧ w'.cell? ⟨B15, 2, none⟩ = some (.int .i64 A3) ∧ w'.cell? ⟨B15, 3, none⟩ = some (.int .i64 A4) ∧ w'.cell? ⟨BX, 0, none⟩ = some (.int .i64 xf) ∧ w'.cell? ⟨BX, 1, none⟩ = some (.int .i64 xt) ∧ w'.cell? ⟨BX, 2, none⟩ = some (.int .i64 xn) ∧ w'.cell? ⟨BX, 3, none⟩ = some (.int .i64 xa)) (first | assumption | exact cells12g (by assumption)) (first
            | (go_at_call 26; (with_reducible refine (e3.out _).mono ?_); rintro e w8 ⟨rfl, hb⟩; have hl := Lv.kept (by assumption) hb; clear hb)
            | (go_at_call 27; (with_reducible refine (e4.out _).mono ?_); rintro e w8 ⟨rfl, hb⟩; have hl := Lv.kept (by assumption) hb; clear hb))
          have K3 := hid hl.drop.drop.drop
          clear hl hc e3 e4
          go_wp2_with fail
          go_roundw
          case rel => first | exact ⟨x + 1, by omega, by go_num, K3⟩ | ((repeat apply Exists.intro); exact ⟨⟨x + 1, by omega, by go_num, K3⟩, rfl⟩)
          case measure => simp [intOf]; omega
    · go_wp2_with fail
      go_ret
      exact ⟨rfl, hl.out.below⟩
end Go.Proofs.Ytndppaldjfggbaa
