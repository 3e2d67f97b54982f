/- PhaseMoves: the walk. No statement is proved here. -/
import Derived.Test.YtmgkbgnjpgkdiaaPhBoth
namespace Go.Proofs.Ytmgkbgnjpgkdiaa
open Go.ChangeShapes Go.WideShapes Go.ChangeAt Go.RowKit
set_option linter.unusedVariables false
set_option linter.unusedSimpArgs false

set_option maxRecDepth 100000 in
set_option maxHeartbeats 16000000 in
theorem phaseMoves_walk (r0 r1 r2 r3 r4 : Int) (a : Option Addr) (len cap : Nat) (l : List Int) (i j b0 b1 : Int) (w : World) (hs : Sl .u8 w a len cap l) :
    Calls Try.prog 3 #[.agg #[.int .i64 r0, .int .i64 r1, .int .i64 r2, .int .i64 r3, .int .i64 r4], .slice a len cap, .int .i64 i, .int .i64 j, .agg #[.int .i64 b0, .int .i64 b1]] w fun e w' => e = .returned (.bool true) ∧ Below w.heap.size w w' := by
  have HS := hid hs
  clear hs
  have hl0 := Lv.alloc (vs := [.int .i64 b0, .int .i64 b1]) (T := 23) (Lv.alloc (vs := [.int .i64 r0, .int .i64 r1, .int .i64 r2, .int .i64 r3, .int .i64 r4]) (T := 25) (Lv.start w))
  simp only [World.size_alloc] at hl0
  have HL0 := hid hl0
  clear hl0
  go_enter Try.func3, Try.ntmps3
  go_wp2_with fail
  (with_reducible refine (sane_any _).mono ?_); rintro e w1 ⟨rfl, hb⟩; have HL1 := hid (HL0.out.kept hb); clear hb HL0
  go_upto_region 3 with (fail)
  have hl := HL1.out.drew
  have hc := cells5 hl.drop
  clear HL1
  go_region_held3 (fun w' => w'.cell? ⟨w.heap.size, 0, none⟩ = some (.int .i64 r0) ∧ w'.cell? ⟨w.heap.size, 1, none⟩ = some (.int .i64 r1) ∧ w'.cell? ⟨w.heap.size, 2, none⟩ = some (.int .i64 r2) ∧ w'.cell? ⟨w.heap.size, 3, none⟩ = some (.int .i64 r3) ∧ w'.cell? ⟨w.heap.size, 4, none⟩ = some (.int .i64 r4)) (first | assumption | exact cells5 (Lv.drop (by assumption)) | go_keep) (first
    | (go_at_call 10; (with_reducible refine (made_any a len cap l _ (HS.out.below (Lv.below (by assumption)))).mono ?_); rintro e w7 ⟨⟨n, d, aa, p, f, rfl, hM⟩, hb⟩; have hlt := Lv.lt (Lv.kept hl hb); have hl := Lv.kept hl hb; clear hb))
  have hl2 := Lv.alloc (vs := [.int .i64 r0, .int .i64 r1, .int .i64 r2, .int .i64 r3, .int .i64 r4, .int .i64 n, .int .i64 d, .int .i64 aa, .int .i64 p, .int .i64 f]) (T := 25) hl
  have HL2 := hid hl2
  clear hl2 hc hlt hM
  clear hl
  go_upto_region 4 with (fail)
  generalize w7.alloc (.cells #[.int .i64 r0, .int .i64 r1, .int .i64 r2, .int .i64 r3, .int .i64 r4, .int .i64 n, .int .i64 d, .int .i64 aa, .int .i64 p, .int .i64 f] 25) = W2 at *
  generalize w7.heap.size = BL at *
  go_loopw [42] (fun v wr => ∃ x : Nat, x ≤ 2 ∧ v = .int .i64 x ∧ Hid (Lv w wr [(BL, [.int .i64 r0, .int .i64 r1, .int .i64 r2, .int .i64 r3, .int .i64 r4, .int .i64 n, .int .i64 d, .int .i64 aa, .int .i64 p, .int .i64 f], 25), (w.heap.size + 1, [.int .i64 b0, .int .i64 b1], 23), (w.heap.size, [.int .i64 r0, .int .i64 r1, .int .i64 r2, .int .i64 r3, .int .i64 r4], 25)])) (fun v _ => 2 - (intOf v).toNat)
  case atStart => exact ⟨0, by omega, rfl, HL2⟩
  case round =>
    obtain ⟨x, hx, rfl, hl⟩ := hrel
    clear HL2
    obtain ⟨wo, rfl⟩ : ∃ wo : World, wo = wr := ⟨_, rfl⟩
    by_cases hlt : x < 2
    · obtain ⟨xn, xd, xa, xp, xf, g0, g1, g2, g3, g4⟩ := pick10 hl.out x hlt
      have hkb : decide ((x : Int) < 2) = true := by simp; omega
      have hl3 := Lv.alloc (vs := [.int .i64 i, .int .i64 (i.tmod 2000)]) (T := 3) (Lv.alloc (vs := [.int .i64 xn, .int .i64 xd, .int .i64 xa, .int .i64 xp, .int .i64 xf]) (T := 25) hl.out)
      simp only [World.size_alloc] at hl3
      have HL3 := hid hl3
      clear hl3
      go_upto_region 7 with (fail)
      clear g0 g1 g2 g3 g4 hl
      generalize (wo.alloc (.cells #[.int .i64 xn, .int .i64 xd, .int .i64 xa, .int .i64 xp, .int .i64 xf] 25)).alloc (.cells #[.int .i64 i, .int .i64 (i.tmod 2000)] 3) = W3 at *
      generalize wo.heap.size + 1 = BK at *
      generalize wo.heap.size = BX at *
      go_loopw [51] (fun v wr => ∃ y : Nat, y ≤ 2 ∧ v = .int .i64 y ∧ Hid (Lv w wr [(BK, [.int .i64 i, .int .i64 (i.tmod 2000)], 3), (BX, [.int .i64 xn, .int .i64 xd, .int .i64 xa, .int .i64 xp, .int .i64 xf], 25), (BL, [.int .i64 r0, .int .i64 r1, .int .i64 r2, .int .i64 r3, .int .i64 r4, .int .i64 n, .int .i64 d, .int .i64 aa, .int .i64 p, .int .i64 f], 25), (w.heap.size + 1, [.int .i64 b0, .int .i64 b1], 23), (w.heap.size, [.int .i64 r0, .int .i64 r1, .int .i64 r2, .int .i64 r3, .int .i64 r4], 25)])) (fun v _ => 2 - (intOf v).toNat)
      case atStart => exact ⟨0, by omega, rfl, HL3⟩
      case round =>
        obtain ⟨y, hy, rfl, hl⟩ := hrel
        clear HL3
        obtain ⟨wp, rfl⟩ : ∃ wp : World, wp = wr := ⟨_, rfl⟩
        by_cases hlt2 : y < 2
        · obtain ⟨k, g0⟩ := pick2 hl.out y hlt2
          have hjb : decide ((y : Int) < 2) = true := by simp; omega
          obtain ⟨q1, q2, q3, hA, hB⟩ := at_both xn xd xa xp xf k
          obtain ⟨n2, d2, a2, p2, f2, q4, hC, hD⟩ := adv_both xn xd xa xp xf k
          have cA := hid hA
          have cB := hid hB
          have cC := hid hC
          have cD := hid hD
          clear hA hB hC hD
          have HL4 := hid hl.out
          clear hl
          have hL := HL4.out.facts
          simp only [liveAt, cellsAt, and_true, Nat.zero_add, Nat.reduceAdd, World.size_alloc] at hL
          go_wp2_with fail
          clear hL g0
          (with_reducible refine (cA.out _).mono ?_); rintro e v1 ⟨rfl, hb⟩; have HL5 := hid (HL4.out.kept hb); clear hb HL4 cA
          have hL := HL5.out.facts
          simp only [liveAt, cellsAt, and_true, Nat.zero_add, Nat.reduceAdd, World.size_alloc] at hL
          go_wp2_with fail
          clear hL
          (with_reducible refine (cB.out _).mono ?_); rintro e v2 ⟨rfl, hb⟩; have HL6 := hid (HL5.out.kept hb); clear hb HL5 cB
          have hL := HL6.out.facts
          simp only [liveAt, cellsAt, and_true, Nat.zero_add, Nat.reduceAdd, World.size_alloc] at hL
          go_wp2_with fail
          clear hL
          (with_reducible refine (cC.out _).mono ?_); rintro e v3 ⟨rfl, hb⟩; have HL7 := hid (Lv.alloc (vs := [.int .i64 n2, .int .i64 d2, .int .i64 a2, .int .i64 p2, .int .i64 f2]) (T := 25) (HL6.out.kept hb)); clear hb HL6 cC
          have hL := HL7.out.facts
          simp only [liveAt, cellsAt, and_true, Nat.zero_add, Nat.reduceAdd, World.size_alloc] at hL
          go_wp2_with fail
          clear hL
          (with_reducible refine (cD.out _).mono ?_); rintro e v4 ⟨rfl, hb⟩; have HL8 := hid (Lv.alloc (vs := [.int .i64 n2, .int .i64 d2, .int .i64 a2, .int .i64 p2, .int .i64 f2]) (T := 25) (HL7.out.kept hb)); clear hb HL7 cD
          have hL := HL8.out.facts
          simp only [liveAt, cellsAt, and_true, Nat.zero_add, Nat.reduceAdd, World.size_alloc] at hL
          have K8 := hid HL8.out.drop.drop
          clear HL8
          go_wp2_with fail
          go_roundw
          case rel => first | exact ⟨y + 1, by omega, by go_num, K8⟩ | ((repeat apply Exists.intro); exact ⟨⟨y + 1, by omega, by go_num, K8⟩, rfl⟩)
          case measure => simp [intOf]; omega
        · have hjb : decide ((y : Int) < 2) = false := by simp; omega
          have hl4 := Lv.alloc (vs := [.int .i64 j, .int .i64 (j.tmod 4098)]) (T := 3) hl.out.drop
          have HL4 := hid hl4
          clear hl4
          go_upto_region 17 with (fail)
          clear hl
          generalize wp.alloc (.cells #[.int .i64 j, .int .i64 (j.tmod 4098)] 3) = W4 at *
          generalize wp.heap.size = BM at *
          go_loopw [110] (fun v wr => ∃ y : Nat, y ≤ 2 ∧ v = .int .i64 y ∧ Hid (Lv w wr [(BM, [.int .i64 j, .int .i64 (j.tmod 4098)], 3), (BX, [.int .i64 xn, .int .i64 xd, .int .i64 xa, .int .i64 xp, .int .i64 xf], 25), (BL, [.int .i64 r0, .int .i64 r1, .int .i64 r2, .int .i64 r3, .int .i64 r4, .int .i64 n, .int .i64 d, .int .i64 aa, .int .i64 p, .int .i64 f], 25), (w.heap.size + 1, [.int .i64 b0, .int .i64 b1], 23), (w.heap.size, [.int .i64 r0, .int .i64 r1, .int .i64 r2, .int .i64 r3, .int .i64 r4], 25)])) (fun v _ => 2 - (intOf v).toNat)
          case atStart => exact ⟨0, by omega, rfl, HL4⟩
          case round =>
            obtain ⟨z, hz, rfl, hl⟩ := hrel
            clear HL4
            obtain ⟨wq, rfl⟩ : ∃ wq : World, wq = wr := ⟨_, rfl⟩
            by_cases hlt3 : z < 2
            · obtain ⟨k, g0⟩ := pick2 hl.out z hlt3
              have hjb3 : decide ((z : Int) < 2) = true := by simp; omega
              obtain ⟨n2, d2, a2, p2, f2, q4, hC, hD⟩ := tune_both xn xd xa xp xf k
              have cC := hid hC
              have cD := hid hD
              clear hC hD
              have HL6 := hid hl.out
              clear hl
              have hL := HL6.out.facts
              simp only [liveAt, cellsAt, and_true, Nat.zero_add, Nat.reduceAdd, World.size_alloc] at hL
              go_wp2_with fail
              clear hL g0
              (with_reducible refine (cC.out _).mono ?_); rintro e v3 ⟨rfl, hb⟩; have HL7 := hid (Lv.alloc (vs := [.int .i64 n2, .int .i64 d2, .int .i64 a2, .int .i64 p2, .int .i64 f2]) (T := 25) (HL6.out.kept hb)); clear hb HL6 cC
              have hL := HL7.out.facts
              simp only [liveAt, cellsAt, and_true, Nat.zero_add, Nat.reduceAdd, World.size_alloc] at hL
              go_wp2_with fail
              clear hL
              (with_reducible refine (cD.out _).mono ?_); rintro e v4 ⟨rfl, hb⟩; have HL8 := hid (Lv.alloc (vs := [.int .i64 n2, .int .i64 d2, .int .i64 a2, .int .i64 p2, .int .i64 f2]) (T := 25) (HL7.out.kept hb)); clear hb HL7 cD
              have hL := HL8.out.facts
              simp only [liveAt, cellsAt, and_true, Nat.zero_add, Nat.reduceAdd, World.size_alloc] at hL
              have K8 := hid HL8.out.drop.drop
              clear HL8
              go_wp2_with fail
              go_roundw
              case rel => first | exact ⟨z + 1, by omega, by go_num, K8⟩ | ((repeat apply Exists.intro); exact ⟨⟨z + 1, by omega, by go_num, K8⟩, rfl⟩)
              case measure => simp [intOf]; omega
            · have hjb3 : decide ((z : Int) < 2) = false := by simp; omega
              have cA := hid (fun w => pvalid_any xn xd xa xp xf w)
              have cB := hid (fun w => rvalid_any xn xd xa xp xf w)
              generalize phV xn xd xa xp xf = V at *
              have hl := hl.out.drop
              go_upto_region 24 with (fail)
              have hl := hl.drew
              have hc := cells5 hl
              have hvv : (V != V) = false := by simp
              go_region_held3 (fun w' => w'.cell? ⟨BX, 0, none⟩ = some (.int .i64 xn) ∧ w'.cell? ⟨BX, 1, none⟩ = some (.int .i64 xd) ∧ w'.cell? ⟨BX, 2, none⟩ = some (.int .i64 xa) ∧ w'.cell? ⟨BX, 3, none⟩ = some (.int .i64 xp) ∧ w'.cell? ⟨BX, 4, none⟩ = some (.int .i64 xf)) (first | assumption | exact cells5 (by assumption)) (first
                | (go_at_call 17; (with_reducible refine (cA.out _).mono ?_); rintro e w8 ⟨rfl, hb⟩; have hl := Lv.kept (by assumption) hb; clear hb)
                | (go_at_call 18; (with_reducible refine (cB.out _).mono ?_); rintro e w8 ⟨rfl, hb⟩; have hl := Lv.kept (by assumption) hb; clear hb))
              have K0 := hid hl.drop
              clear hl hc cA cB
              go_wp2_with fail
              go_roundw
              case rel => first | exact ⟨x + 1, by omega, by go_num, K0⟩ | ((repeat apply Exists.intro); exact ⟨⟨x + 1, by omega, by go_num, K0⟩, rfl⟩)
              case measure => simp [intOf]; omega
    · have hkb : decide ((x : Int) < 2) = false := by simp; omega
      obtain ⟨n2, d2, a2, p2, f2, q4, hC, hD⟩ := new_both b0 b1
      have cC := hid hC
      have cD := hid hD
      clear hC hD
      have HL6 := hid hl.out.drop
      clear hl
      have hL := HL6.out.facts
      simp only [liveAt, cellsAt, and_true, Nat.zero_add, Nat.reduceAdd, World.size_alloc] at hL
      go_wp2_with fail
      clear hL
      (with_reducible refine (cC.out _).mono ?_); rintro e v3 ⟨rfl, hb⟩; have HL7 := hid (Lv.alloc (vs := [.int .i64 n2, .int .i64 d2, .int .i64 a2, .int .i64 p2, .int .i64 f2]) (T := 25) (HL6.out.kept hb)); clear hb HL6 cC
      have hL := HL7.out.facts
      simp only [liveAt, cellsAt, and_true, Nat.zero_add, Nat.reduceAdd, World.size_alloc] at hL
      go_wp2_with fail
      clear hL
      (with_reducible refine (cD.out _).mono ?_); rintro e v4 ⟨rfl, hb⟩; have HL8 := hid (Lv.alloc (vs := [.int .i64 n2, .int .i64 d2, .int .i64 a2, .int .i64 p2, .int .i64 f2]) (T := 25) (HL7.out.kept hb)); clear hb HL7 cD
      have hL := HL8.out.facts
      simp only [liveAt, cellsAt, and_true, Nat.zero_add, Nat.reduceAdd, World.size_alloc] at hL
      go_wp2_with fail
      go_ret
      exact ⟨rfl, HL8.out.below⟩
end Go.Proofs.Ytmgkbgnjpgkdiaa
