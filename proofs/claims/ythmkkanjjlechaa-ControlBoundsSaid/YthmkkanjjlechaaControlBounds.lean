/- ControlBounds: the walk. -/
import Derived.Test.YthmkkanjjlechaaControlRPlan
import Derived.Test.YthmkkanjjlechaaControlSaturates
import Derived.Deep.DeepCutAuto
import Derived.Outline
namespace Go.Proofs.Ythmkkanjjlechaa
open Go.ChangeShapes Go.WideShapes Go.ChangeAt Go.RowKit
set_option linter.unusedVariables false
set_option linter.unusedSimpArgs false

theorem pick4 {W w : World} {b : Nat} {T : TypeId} {x0 x1 x2 x3 y0 y1 y2 y3 : Int} {L : List (Nat × List Value × TypeId)} (h : Lv W w ((b, [.int .i64 x0, .int .i64 x1, .int .i64 x2, .int .i64 x3, .int .i64 y0, .int .i64 y1, .int .i64 y2, .int .i64 y3], T) :: L)) (k : Nat) (hk : k < 2) :
    ∃ p q r s : Int, w.cell? ⟨b, k * 4, none⟩ = some (.int .i64 p) ∧ w.cell? ⟨b, k * 4 + 1, none⟩ = some (.int .i64 q) ∧ w.cell? ⟨b, k * 4 + 2, none⟩ = some (.int .i64 r) ∧ w.cell? ⟨b, k * 4 + 3, none⟩ = some (.int .i64 s) := by
  have hL := h.facts
  simp only [liveAt, cellsAt, Nat.zero_add, Nat.reduceAdd] at hL
  obtain ⟨⟨a0, _, a1, _, a2, _, a3, _, a4, _, a5, _, a6, _, a7, _⟩, _⟩ := hL
  match k, hk with
  | 0, _ => exact ⟨_, _, _, _, a0, a1, a2, a3⟩
  | 1, _ => exact ⟨_, _, _, _, a4, a5, a6, a7⟩
theorem pick22 {W w : World} {b : Nat} {T : TypeId} {x0 x1 y0 y1 : Int} {L : List (Nat × List Value × TypeId)} (h : Lv W w ((b, [.int .i64 x0, .int .i64 x1, .int .i64 y0, .int .i64 y1], T) :: L)) (k : Nat) (hk : k < 2) :
    ∃ p q : Int, w.cell? ⟨b, k * 2, none⟩ = some (.int .i64 p) ∧ w.cell? ⟨b, k * 2 + 1, none⟩ = some (.int .i64 q) := by
  have hL := h.facts
  simp only [liveAt, cellsAt, Nat.zero_add, Nat.reduceAdd] at hL
  obtain ⟨⟨a0, _, a1, _, a2, _, a3, _⟩, _⟩ := hL
  match k, hk with
  | 0, _ => exact ⟨_, _, a0, a1⟩
  | 1, _ => exact ⟨_, _, a2, a3⟩
theorem pick3 {W w : World} {b : Nat} {T : TypeId} {x0 x1 x2 y0 y1 y2 : Int} {L : List (Nat × List Value × TypeId)} (h : Lv W w ((b, [.int .i64 x0, .int .i64 x1, .int .i64 x2, .int .i64 y0, .int .i64 y1, .int .i64 y2], T) :: L)) (k : Nat) (hk : k < 2) :
    ∃ p q r : Int, w.cell? ⟨b, k * 3, none⟩ = some (.int .i64 p) ∧ w.cell? ⟨b, k * 3 + 1, none⟩ = some (.int .i64 q) ∧ w.cell? ⟨b, k * 3 + 2, none⟩ = some (.int .i64 r) := by
  have hL := h.facts
  simp only [liveAt, cellsAt, Nat.zero_add, Nat.reduceAdd] at hL
  obtain ⟨⟨a0, _, a1, _, a2, _, a3, _, a4, _, a5, _⟩, _⟩ := hL
  match k, hk with
  | 0, _ => exact ⟨_, _, _, a0, a1, a2⟩
  | 1, _ => exact ⟨_, _, _, a3, a4, a5⟩
set_option maxRecDepth 100000 in
set_option maxHeartbeats 32000000 in
theorem controlBounds_walk (ft fc fg fm rn rd : Int) (a : Option Addr) (len cap : Nat) (l : List Int) (dr ji st de ga : Int) (w : World) (hs : Sl .u8 w a len cap l) :
    Calls Try.prog 4 #[.agg #[.int .i64 ft, .int .i64 fc, .int .i64 fg, .int .i64 fm], .agg #[.int .i64 rn, .int .i64 rd], .slice a len cap, .int .i64 dr, .int .i64 ji, .int .i64 st, .int .i64 de, .int .i64 ga] w fun e w' => e = .returned (.bool true) ∧ Below w.heap.size w w' := by
  have HS := hid hs
  clear hs
  have hl0 := Lv.alloc (vs := [.int .i64 rn, .int .i64 rd]) (T := 27) (Lv.alloc (vs := [.int .i64 ft, .int .i64 fc, .int .i64 fg, .int .i64 fm]) (T := 23) (Lv.start w))
  simp only [World.size_alloc] at hl0
  have HL0 := hid hl0
  clear hl0
  go_enter Try.func4, Try.ntmps4
  go_wp2_with fail
  (with_reducible refine (sane18_any _).mono ?_); rintro e w1 ⟨rfl, hb⟩; have HL1 := hid (HL0.out.kept hb); clear hb HL0
  go_wp2_with fail
  (with_reducible refine (new_any a len cap l _ (HS.out.below HL1.out.below)).mono ?_); rintro e w2 ⟨d, rfl, hd0, hdk, hb⟩; have HK := hid hdk; have HL2 := hid (HL1.out.kept hb); have hz1 := HL1.out.lt; have hz2 := HL1.out.size; clear hdk hb HL1
  go_wp2_with fail
  (with_reducible refine (made18_any _ d HK.out).mono ?_); rintro e w3 ⟨⟨t, c, g, m, pn, pd, k, j, rfl, _, _, _, _, _, _, _, _⟩, hdk, hbt⟩; have HL3 := hid (Lv.alloc (vs := [.int .i64 pn, .int .i64 pd]) (T := 27) (Lv.alloc (vs := [.int .i64 t, .int .i64 c, .int .i64 g, .int .i64 m]) (T := 23) (HL2.out.turn d hbt.os hbt.tape hbt.output hbt.size hbt.block (Nat.le_trans hz2 hd0) (by simp; omega)))); clear hdk hbt HL2 HK HS hz1 hz2
  go_upto_region 4 with (fail)
  have hl := HL3.out
  simp only [World.size_alloc] at hl
  generalize (w3.alloc (.cells #[.int .i64 t, .int .i64 c, .int .i64 g, .int .i64 m] 23)).alloc (.cells #[.int .i64 pn, .int .i64 pd] 27) = W3 at *
  generalize w3.heap.size + 1 = B4 at *
  generalize w3.heap.size = B3 at *
  generalize w.heap.size + 1 = B1 at *
  have hL := hl.facts
  simp only [liveAt, cellsAt, and_true, Nat.zero_add, Nat.reduceAdd, World.size_alloc] at hL
  have HL4 := hid (Lv.alloc (vs := [.int .i64 ft, .int .i64 fc, .int .i64 fg, .int .i64 fm, .int .i64 t, .int .i64 c, .int .i64 g, .int .i64 m]) (T := 23) hl)
  clear hl HL3
  go_upto_region 5 with (fail)
  clear hL
  generalize W3.alloc (.cells #[.int .i64 ft, .int .i64 fc, .int .i64 fg, .int .i64 fm, .int .i64 t, .int .i64 c, .int .i64 g, .int .i64 m] 23) = W4 at *
  generalize W3.heap.size = B5 at *
  go_loopw [55] (fun i wr => ∃ x : Nat, x ≤ 2 ∧ i = .int .i64 x ∧ Hid (Lv w wr [(B5, [.int .i64 ft, .int .i64 fc, .int .i64 fg, .int .i64 fm, .int .i64 t, .int .i64 c, .int .i64 g, .int .i64 m], 23), (B4, [.int .i64 pn, .int .i64 pd], 27), (B3, [.int .i64 t, .int .i64 c, .int .i64 g, .int .i64 m], 23), (B1, [.int .i64 rn, .int .i64 rd], 27), (w.heap.size, [.int .i64 ft, .int .i64 fc, .int .i64 fg, .int .i64 fm], 23)])) (fun i _ => 2 - (intOf i).toNat)
  case atStart => exact ⟨0, by omega, rfl, HL4⟩
  case round =>
    obtain ⟨x, hx, rfl, hl⟩ := hrel
    clear HL4
    obtain ⟨wo, rfl⟩ : ∃ wo : World, wo = wr := ⟨_, rfl⟩
    by_cases hlt : x < 2
    · obtain ⟨xt, xc, xg, xm, f0, f1, f2, f3⟩ := pick4 hl.out x hlt
      have hkb : decide ((x : Int) < 2) = true := by simp; omega
      have HL5 := hid (Lv.alloc (vs := [.int .i64 xt, .int .i64 xc, .int .i64 xg, .int .i64 xm]) (T := 23) hl.out)
      go_upto_region 7 with (fail)
      clear f0 f1 f2 f3 hl
      generalize wo.alloc (.cells #[.int .i64 xt, .int .i64 xc, .int .i64 xg, .int .i64 xm] 23) = W5 at *
      generalize wo.heap.size = B6 at *
      have hL := HL5.out.facts
      simp only [liveAt, cellsAt, and_true, Nat.zero_add, Nat.reduceAdd, World.size_alloc] at hL
      have HL6 := hid (Lv.alloc (vs := [.int .i64 rn, .int .i64 rd, .int .i64 pn, .int .i64 pd]) (T := 27) HL5.out)
      go_upto_region 8 with (fail)
      clear hL HL5
      generalize W5.alloc (.cells #[.int .i64 rn, .int .i64 rd, .int .i64 pn, .int .i64 pd] 27) = W6 at *
      generalize W5.heap.size = B7 at *
      go_loopw [63] (fun i wq => ∃ y : Nat, y ≤ 2 ∧ i = .int .i64 y ∧ Hid (Lv w wq [(B7, [.int .i64 rn, .int .i64 rd, .int .i64 pn, .int .i64 pd], 27), (B6, [.int .i64 xt, .int .i64 xc, .int .i64 xg, .int .i64 xm], 23), (B5, [.int .i64 ft, .int .i64 fc, .int .i64 fg, .int .i64 fm, .int .i64 t, .int .i64 c, .int .i64 g, .int .i64 m], 23), (B4, [.int .i64 pn, .int .i64 pd], 27), (B3, [.int .i64 t, .int .i64 c, .int .i64 g, .int .i64 m], 23), (B1, [.int .i64 rn, .int .i64 rd], 27), (w.heap.size, [.int .i64 ft, .int .i64 fc, .int .i64 fg, .int .i64 fm], 23)])) (fun i _ => 2 - (intOf i).toNat)
      case atStart => exact ⟨0, by omega, rfl, HL6⟩
      case round =>
        obtain ⟨y, hy, rfl, hl⟩ := hrel
        clear HL6
        obtain ⟨wp, rfl⟩ : ∃ wp : World, wp = wr := ⟨_, rfl⟩
        by_cases hlt2 : y < 2
        · obtain ⟨qn, qd, f0, f1⟩ := pick22 hl.out y hlt2
          have hjb : decide ((y : Int) < 2) = true := by simp; omega
          have HL7 := hid (Lv.alloc (vs := [.int .i64 dr, .int .i64 ji, .int .i64 st, .int .i64 k, .int .i64 j, .int .i64 ((wrap64 (st.tmod 100 + 100)).tmod 100)]) (T := 38) (Lv.alloc (vs := [.int .i64 qn, .int .i64 qd]) (T := 27) hl.out))
          go_upto_region 11 with (fail)
          clear f0 f1 hl
          generalize (wrap64 (st.tmod 100 + 100)).tmod 100 = f2 at *
          have hl := HL7.out
          simp only [World.size_alloc] at hl
          have HL8 := hid hl
          clear hl HL7
          generalize (wp.alloc (.cells #[.int .i64 qn, .int .i64 qd] 27)).alloc (.cells #[.int .i64 dr, .int .i64 ji, .int .i64 st, .int .i64 k, .int .i64 j, .int .i64 f2] 38) = W7 at *
          generalize wp.heap.size + 1 = B9 at *
          generalize wp.heap.size = B8 at *
          go_loopw [80] (fun i wq => ∃ z : Nat, z ≤ 2 ∧ i = .int .i64 z ∧ Hid (Lv w wq [(B9, [.int .i64 dr, .int .i64 ji, .int .i64 st, .int .i64 k, .int .i64 j, .int .i64 f2], 38), (B8, [.int .i64 qn, .int .i64 qd], 27), (B7, [.int .i64 rn, .int .i64 rd, .int .i64 pn, .int .i64 pd], 27), (B6, [.int .i64 xt, .int .i64 xc, .int .i64 xg, .int .i64 xm], 23), (B5, [.int .i64 ft, .int .i64 fc, .int .i64 fg, .int .i64 fm, .int .i64 t, .int .i64 c, .int .i64 g, .int .i64 m], 23), (B4, [.int .i64 pn, .int .i64 pd], 27), (B3, [.int .i64 t, .int .i64 c, .int .i64 g, .int .i64 m], 23), (B1, [.int .i64 rn, .int .i64 rd], 27), (w.heap.size, [.int .i64 ft, .int .i64 fc, .int .i64 fg, .int .i64 fm], 23)])) (fun i _ => 2 - (intOf i).toNat)
          case atStart => exact ⟨0, by omega, rfl, HL8⟩
          case round =>
            obtain ⟨z, hz, rfl, hl⟩ := hrel
            clear HL8
            by_cases hlt3 : z < 2
            · obtain ⟨n0, n1, n2, f0, f1, f3⟩ := pick3 hl.out z hlt3
              have hzb : decide ((z : Int) < 2) = true := by simp; omega
              have HL9 := hid (Lv.alloc (vs := [.int .i64 n0, .int .i64 n1, .int .i64 n2]) (T := 38) hl.out)
              go_upto_region 13 with (fail)
              clear f0 f1 f3 hl
              have c1 := hid (fun w => bound_any xt xc xg xm qn qd n0 n1 n2 w)
              have c2 := hid (fun w => rbound_any xt xc xg xm qn qd n0 n1 n2 w)
              have c3 := hid (fun w => demand_any xt xc xg xm qn qd n0 n1 w)
              have c4 := hid (fun w => rdemand_any xt xc xg xm qn qd n0 n1 w)
              have c5 := hid (fun w => plan_all qn qd n0 n1 de ga w)
              have c6 := hid (fun w => rplan_all qn qd n0 n1 de ga w)
              generalize bndV xt xc xg xm qn qd n0 n1 n2 = V1 at *
              generalize demV xt xc xg xm qn qd n0 n1 = V2 at *
              generalize planV qn qd n0 n1 de ga = V3 at *
              obtain ⟨A1, A2⟩ := V1
              obtain ⟨D1, D2⟩ := V2
              obtain ⟨P1, P2, P3, P4, P5, P6⟩ := V3
              simp only at c1 c2 c3 c4 c5 c6
              have hL := HL9.out.facts
              simp only [liveAt, cellsAt, and_true, Nat.zero_add, Nat.reduceAdd, World.size_alloc] at hL
              go_wp2_with fail
              clear hL
              (with_reducible refine (c1.out _).mono ?_); rintro e v0 ⟨rfl, hb⟩; have K1 := hid (HL9.out.kept hb); clear hb HL9 c1
              have hL := K1.out.facts
              simp only [liveAt, cellsAt, and_true, Nat.zero_add, Nat.reduceAdd, World.size_alloc] at hL
              go_wp2_with fail
              clear hL
              (with_reducible refine (c2.out _).mono ?_); rintro e v1 ⟨rfl, hb⟩; have K2 := hid (K1.out.kept hb); clear hb K1 c2
              have hL := K2.out.facts
              simp only [liveAt, cellsAt, and_true, Nat.zero_add, Nat.reduceAdd, World.size_alloc] at hL
              go_wp2_with fail
              clear hL
              (with_reducible refine (c3.out _).mono ?_); rintro e v2 ⟨rfl, hb⟩; have K3 := hid (K2.out.kept hb); clear hb K2 c3
              have hL := K3.out.facts
              simp only [liveAt, cellsAt, and_true, Nat.zero_add, Nat.reduceAdd, World.size_alloc] at hL
              go_wp2_with fail
              clear hL
              (with_reducible refine (c4.out _).mono ?_); rintro e v3 ⟨rfl, hb⟩; have K4 := hid (K3.out.kept hb); clear hb K3 c4
              have hL := K4.out.facts
              simp only [liveAt, cellsAt, and_true, Nat.zero_add, Nat.reduceAdd, World.size_alloc] at hL
              go_wp2_with fail
              clear hL
              (with_reducible refine (c5.out _).mono ?_); rintro e v4 ⟨rfl, hb⟩; have K5 := hid (Lv.alloc (vs := [.int .i64 P1, .int .i64 P2, .int .i64 P3, .int .i64 P4]) (T := 23) (K4.out.kept hb)); clear hb K4 c5
              have hL := K5.out.facts
              simp only [liveAt, cellsAt, and_true, Nat.zero_add, Nat.reduceAdd, World.size_alloc] at hL
              go_wp2_with fail
              clear hL
              (with_reducible refine (c6.out _).mono ?_); rintro e v5 ⟨rfl, hb⟩; have K6 := hid (Lv.alloc (vs := [.int .i64 P1, .int .i64 P2, .int .i64 P3, .int .i64 P4]) (T := 23) (K5.out.kept hb)); clear hb K5 c6
              have hL := K6.out.facts
              simp only [liveAt, cellsAt, and_true, Nat.zero_add, Nat.reduceAdd, World.size_alloc] at hL
              go_wp2_with fail
              clear hL
              have K9 := hid K6.out.drop.drop.drop
              clear K6
              go_roundw
              case rel => first | exact ⟨z + 1, by omega, by go_num, K9⟩ | ((repeat apply Exists.intro); exact ⟨⟨z + 1, by omega, by go_num, K9⟩, rfl⟩)
              case measure => simp [intOf]; omega
            · have K9 := hid hl.out.drop.drop
              clear hl
              go_wp2_with fail
              go_roundw
              case rel => first | exact ⟨y + 1, by omega, by go_num, K9⟩ | ((repeat apply Exists.intro); exact ⟨⟨y + 1, by omega, by go_num, K9⟩, rfl⟩)
              case measure => simp [intOf]; omega
        · have K9 := hid hl.out.drop.drop
          clear hl
          go_wp2_with fail
          go_roundw
          case rel => first | exact ⟨x + 1, by omega, by go_num, K9⟩ | ((repeat apply Exists.intro); exact ⟨⟨x + 1, by omega, by go_num, K9⟩, rfl⟩)
          case measure => simp [intOf]; omega
    · go_wp2_with fail
      go_ret
      exact ⟨rfl, hl.out.below⟩
end Go.Proofs.Ythmkkanjjlechaa
