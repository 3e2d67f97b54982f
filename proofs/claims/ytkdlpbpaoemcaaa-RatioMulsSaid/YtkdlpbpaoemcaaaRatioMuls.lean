/- The law of products. -/
import Derived.Test.YtkdlpbpaoemcaaaRatioRMul
import Derived.Test.YtkdlpbpaoemcaaaFacts
import Derived.Outline
namespace Go.Proofs.Ytkdlpbpaoemcaaa
open Go.ChangeShapes Go.WideShapes Go.ChangeAt Go.RowKit
set_option linter.unusedVariables false
set_option linter.unusedSimpArgs false

theorem lit4 {W w : World} {b : Nat} {T : TypeId} {L : List (Nat × List Value × TypeId)} {a0 a1 b0 b1 : Int} (h : Hid (Lv W w ((b, [.int .i64 a0, .int .i64 a1, .int .i64 b0, .int .i64 b1], T) :: L))) (k : Nat) (hk : k < 2) :
    ∃ (x y : Int), w.cell? ⟨b, k * 2, none⟩ = some (.int .i64 x) ∧ w.cell? ⟨b, k * 2 + 1, none⟩ = some (.int .i64 y) := by
  have hb : Blk w b [.int .i64 a0, .int .i64 a1, .int .i64 b0, .int .i64 b1] T := h.out.live.1
  match k, hk with
  | 0, _ => exact ⟨a0, a1, hb.cell 0 rfl, hb.cell 1 rfl⟩
  | 1, _ => exact ⟨b0, b1, hb.cell 2 rfl, hb.cell 3 rfl⟩
theorem lit6 {W w : World} {b : Nat} {T : TypeId} {L : List (Nat × List Value × TypeId)} {a0 a1 b0 b1 d0 d1 : Int} (h : Hid (Lv W w ((b, [.int .i64 a0, .int .i64 a1, .int .i64 b0, .int .i64 b1, .int .i64 d0, .int .i64 d1], T) :: L))) (k : Nat) (hk : k < 3) :
    ∃ (x y : Int), w.cell? ⟨b, k * 2, none⟩ = some (.int .i64 x) ∧ w.cell? ⟨b, k * 2 + 1, none⟩ = some (.int .i64 y) := by
  have hb : Blk w b [.int .i64 a0, .int .i64 a1, .int .i64 b0, .int .i64 b1, .int .i64 d0, .int .i64 d1] T := h.out.live.1
  match k, hk with
  | 0, _ => exact ⟨a0, a1, hb.cell 0 rfl, hb.cell 1 rfl⟩
  | 1, _ => exact ⟨b0, b1, hb.cell 2 rfl, hb.cell 3 rfl⟩
  | 2, _ => exact ⟨d0, d1, hb.cell 4 rfl, hb.cell 5 rfl⟩
theorem sx_of {W w : World} {BX B1 Bs Br : Nat} {xn xd rn rd P Q sn sd : Int} (h : Lv W w [(BX, [.int .i64 xn, .int .i64 xd], 23), (B1, [.int .i64 rn, .int .i64 rd, .int .i64 P, .int .i64 Q], 23), (Bs, [.int .i64 sn, .int .i64 sd], 23), (Br, [.int .i64 rn, .int .i64 rd], 23)]) : w.cell? ⟨BX, 0, none⟩ = some (.int .i64 xn) ∧ w.cell? ⟨BX, 1, none⟩ = some (.int .i64 xd) ∧ w.cell? ⟨Bs, 0, none⟩ = some (.int .i64 sn) ∧ w.cell? ⟨Bs, 1, none⟩ = some (.int .i64 sd) ∧ Lv W w [(BX, [.int .i64 xn, .int .i64 xd], 23), (B1, [.int .i64 rn, .int .i64 rd, .int .i64 P, .int .i64 Q], 23), (Bs, [.int .i64 sn, .int .i64 sd], 23), (Br, [.int .i64 rn, .int .i64 rd], 23)] := by
  have b1 : Blk w BX [.int .i64 xn, .int .i64 xd] 23 := h.live.1
  have b2 : Blk w Bs [.int .i64 sn, .int .i64 sd] 23 := h.live.2.2.1
  exact ⟨b1.cell 0 rfl, b1.cell 1 rfl, b2.cell 0 rfl, b2.cell 1 rfl, h⟩
theorem keepX {Pr : Program} {f : FuncId} {args : Array Value} {w W : World} {v : Value} {BX B1 Bs Br : Nat} {xn xd rn rd P Q sn sd : Int}
    (hc : Calls Pr f args w fun e w' => e = .returned v ∧ Below w.heap.size w w') (hS : w.cell? ⟨BX, 0, none⟩ = some (.int .i64 xn) ∧ w.cell? ⟨BX, 1, none⟩ = some (.int .i64 xd) ∧ w.cell? ⟨Bs, 0, none⟩ = some (.int .i64 sn) ∧ w.cell? ⟨Bs, 1, none⟩ = some (.int .i64 sd) ∧ Lv W w [(BX, [.int .i64 xn, .int .i64 xd], 23), (B1, [.int .i64 rn, .int .i64 rd, .int .i64 P, .int .i64 Q], 23), (Bs, [.int .i64 sn, .int .i64 sd], 23), (Br, [.int .i64 rn, .int .i64 rd], 23)]) :
    Calls Pr f args w fun e w' => e = .returned v ∧ w'.cell? ⟨BX, 0, none⟩ = some (.int .i64 xn) ∧ w'.cell? ⟨BX, 1, none⟩ = some (.int .i64 xd) ∧ w'.cell? ⟨Bs, 0, none⟩ = some (.int .i64 sn) ∧ w'.cell? ⟨Bs, 1, none⟩ = some (.int .i64 sd) ∧ Lv W w' [(BX, [.int .i64 xn, .int .i64 xd], 23), (B1, [.int .i64 rn, .int .i64 rd, .int .i64 P, .int .i64 Q], 23), (Bs, [.int .i64 sn, .int .i64 sd], 23), (Br, [.int .i64 rn, .int .i64 rd], 23)] :=
  hc.mono fun e w' ⟨h1, h2⟩ => ⟨h1, sx_of (hS.2.2.2.2.kept h2)⟩
theorem sx_alloc {W w : World} {BX B1 Bs Br : Nat} {xn xd rn rd P Q sn sd : Int} {x : Obj} (hS : w.cell? ⟨BX, 0, none⟩ = some (.int .i64 xn) ∧ w.cell? ⟨BX, 1, none⟩ = some (.int .i64 xd) ∧ w.cell? ⟨Bs, 0, none⟩ = some (.int .i64 sn) ∧ w.cell? ⟨Bs, 1, none⟩ = some (.int .i64 sd) ∧ Lv W w [(BX, [.int .i64 xn, .int .i64 xd], 23), (B1, [.int .i64 rn, .int .i64 rd, .int .i64 P, .int .i64 Q], 23), (Bs, [.int .i64 sn, .int .i64 sd], 23), (Br, [.int .i64 rn, .int .i64 rd], 23)]) : (w.alloc x).cell? ⟨BX, 0, none⟩ = some (.int .i64 xn) ∧ (w.alloc x).cell? ⟨BX, 1, none⟩ = some (.int .i64 xd) ∧ (w.alloc x).cell? ⟨Bs, 0, none⟩ = some (.int .i64 sn) ∧ (w.alloc x).cell? ⟨Bs, 1, none⟩ = some (.int .i64 sd) ∧ Lv W (w.alloc x) [(BX, [.int .i64 xn, .int .i64 xd], 23), (B1, [.int .i64 rn, .int .i64 rd, .int .i64 P, .int .i64 Q], 23), (Bs, [.int .i64 sn, .int .i64 sd], 23), (Br, [.int .i64 rn, .int .i64 rd], 23)] :=
  sx_of (hS.2.2.2.2.kept (by go_grown))
theorem se_of {W w : World} {BJ BI BV BU BY B3 BX : Nat} {I1 I2 M1 M2 yn yd sn sd U V xn xd : Int} {L : List (Nat × List Value × TypeId)} (h : Lv W w ((BJ, [.int .i64 I1, .int .i64 I2], 23) :: (BI, [.int .i64 I1, .int .i64 I2], 23) :: (BV, [.int .i64 M1, .int .i64 M2], 23) :: (BU, [.int .i64 M1, .int .i64 M2], 23) :: (BY, [.int .i64 yn, .int .i64 yd], 23) :: (B3, [.int .i64 sn, .int .i64 sd, .int .i64 U, .int .i64 V, .int .i64 xn, .int .i64 xd], 23) :: (BX, [.int .i64 xn, .int .i64 xd], 23) :: L)) : w.cell? ⟨BJ, 0, none⟩ = some (.int .i64 I1) ∧ w.cell? ⟨BJ, 1, none⟩ = some (.int .i64 I2) ∧ w.cell? ⟨BI, 0, none⟩ = some (.int .i64 I1) ∧ w.cell? ⟨BI, 1, none⟩ = some (.int .i64 I2) ∧ w.cell? ⟨BV, 0, none⟩ = some (.int .i64 M1) ∧ w.cell? ⟨BV, 1, none⟩ = some (.int .i64 M2) ∧ w.cell? ⟨BU, 0, none⟩ = some (.int .i64 M1) ∧ w.cell? ⟨BU, 1, none⟩ = some (.int .i64 M2) ∧ w.cell? ⟨BY, 0, none⟩ = some (.int .i64 yn) ∧ w.cell? ⟨BY, 1, none⟩ = some (.int .i64 yd) ∧ w.cell? ⟨BX, 0, none⟩ = some (.int .i64 xn) ∧ w.cell? ⟨BX, 1, none⟩ = some (.int .i64 xd) ∧ Lv W w ((BJ, [.int .i64 I1, .int .i64 I2], 23) :: (BI, [.int .i64 I1, .int .i64 I2], 23) :: (BV, [.int .i64 M1, .int .i64 M2], 23) :: (BU, [.int .i64 M1, .int .i64 M2], 23) :: (BY, [.int .i64 yn, .int .i64 yd], 23) :: (B3, [.int .i64 sn, .int .i64 sd, .int .i64 U, .int .i64 V, .int .i64 xn, .int .i64 xd], 23) :: (BX, [.int .i64 xn, .int .i64 xd], 23) :: L) := by
  have b1 : Blk w BJ [.int .i64 I1, .int .i64 I2] 23 := h.live.1
  have b2 : Blk w BI [.int .i64 I1, .int .i64 I2] 23 := h.live.2.1
  have b3 : Blk w BV [.int .i64 M1, .int .i64 M2] 23 := h.live.2.2.1
  have b4 : Blk w BU [.int .i64 M1, .int .i64 M2] 23 := h.live.2.2.2.1
  have b5 : Blk w BY [.int .i64 yn, .int .i64 yd] 23 := h.live.2.2.2.2.1
  have b6 : Blk w BX [.int .i64 xn, .int .i64 xd] 23 := h.live.2.2.2.2.2.2.1
  exact ⟨b1.cell 0 rfl, b1.cell 1 rfl, b2.cell 0 rfl, b2.cell 1 rfl, b3.cell 0 rfl, b3.cell 1 rfl, b4.cell 0 rfl, b4.cell 1 rfl, b5.cell 0 rfl, b5.cell 1 rfl, b6.cell 0 rfl, b6.cell 1 rfl, h⟩
theorem keepE {Pr : Program} {f : FuncId} {args : Array Value} {w W : World} {v : Value} {BJ BI BV BU BY B3 BX : Nat} {I1 I2 M1 M2 yn yd sn sd U V xn xd : Int} {L : List (Nat × List Value × TypeId)}
    (hc : Calls Pr f args w fun e w' => e = .returned v ∧ Below w.heap.size w w') (hS : w.cell? ⟨BJ, 0, none⟩ = some (.int .i64 I1) ∧ w.cell? ⟨BJ, 1, none⟩ = some (.int .i64 I2) ∧ w.cell? ⟨BI, 0, none⟩ = some (.int .i64 I1) ∧ w.cell? ⟨BI, 1, none⟩ = some (.int .i64 I2) ∧ w.cell? ⟨BV, 0, none⟩ = some (.int .i64 M1) ∧ w.cell? ⟨BV, 1, none⟩ = some (.int .i64 M2) ∧ w.cell? ⟨BU, 0, none⟩ = some (.int .i64 M1) ∧ w.cell? ⟨BU, 1, none⟩ = some (.int .i64 M2) ∧ w.cell? ⟨BY, 0, none⟩ = some (.int .i64 yn) ∧ w.cell? ⟨BY, 1, none⟩ = some (.int .i64 yd) ∧ w.cell? ⟨BX, 0, none⟩ = some (.int .i64 xn) ∧ w.cell? ⟨BX, 1, none⟩ = some (.int .i64 xd) ∧ Lv W w ((BJ, [.int .i64 I1, .int .i64 I2], 23) :: (BI, [.int .i64 I1, .int .i64 I2], 23) :: (BV, [.int .i64 M1, .int .i64 M2], 23) :: (BU, [.int .i64 M1, .int .i64 M2], 23) :: (BY, [.int .i64 yn, .int .i64 yd], 23) :: (B3, [.int .i64 sn, .int .i64 sd, .int .i64 U, .int .i64 V, .int .i64 xn, .int .i64 xd], 23) :: (BX, [.int .i64 xn, .int .i64 xd], 23) :: L)) :
    Calls Pr f args w fun e w' => e = .returned v ∧ w'.cell? ⟨BJ, 0, none⟩ = some (.int .i64 I1) ∧ w'.cell? ⟨BJ, 1, none⟩ = some (.int .i64 I2) ∧ w'.cell? ⟨BI, 0, none⟩ = some (.int .i64 I1) ∧ w'.cell? ⟨BI, 1, none⟩ = some (.int .i64 I2) ∧ w'.cell? ⟨BV, 0, none⟩ = some (.int .i64 M1) ∧ w'.cell? ⟨BV, 1, none⟩ = some (.int .i64 M2) ∧ w'.cell? ⟨BU, 0, none⟩ = some (.int .i64 M1) ∧ w'.cell? ⟨BU, 1, none⟩ = some (.int .i64 M2) ∧ w'.cell? ⟨BY, 0, none⟩ = some (.int .i64 yn) ∧ w'.cell? ⟨BY, 1, none⟩ = some (.int .i64 yd) ∧ w'.cell? ⟨BX, 0, none⟩ = some (.int .i64 xn) ∧ w'.cell? ⟨BX, 1, none⟩ = some (.int .i64 xd) ∧ Lv W w' ((BJ, [.int .i64 I1, .int .i64 I2], 23) :: (BI, [.int .i64 I1, .int .i64 I2], 23) :: (BV, [.int .i64 M1, .int .i64 M2], 23) :: (BU, [.int .i64 M1, .int .i64 M2], 23) :: (BY, [.int .i64 yn, .int .i64 yd], 23) :: (B3, [.int .i64 sn, .int .i64 sd, .int .i64 U, .int .i64 V, .int .i64 xn, .int .i64 xd], 23) :: (BX, [.int .i64 xn, .int .i64 xd], 23) :: L) :=
  hc.mono fun e w' ⟨h1, h2⟩ => ⟨h1, se_of (hS.2.2.2.2.2.2.2.2.2.2.2.2.kept h2)⟩
set_option maxRecDepth 100000 in
set_option maxHeartbeats 16000000 in
theorem ratioMuls_walk (rn rd sn sd a b c d : Int) (w : World) :
    Calls Try.prog 4 #[.agg #[.int .i64 rn, .int .i64 rd], .agg #[.int .i64 sn, .int .i64 sd], .int .i64 a, .int .i64 b, .int .i64 c, .int .i64 d] w fun e w' => e = .returned (.bool true) ∧ Below w.heap.size w w' := by
  have c1 := hid (fun w => made03_any a b w)
  have c2 := hid (fun w => made03_any c d w)
  generalize (mkV (termV a) (termV b)).1.1 = P at *
  generalize (mkV (termV a) (termV b)).1.2 = Q at *
  generalize (mkV (termV c) (termV d)).1.1 = U at *
  generalize (mkV (termV c) (termV d)).1.2 = V at *
  go_enter Try.func4, Try.ntmps4
  go_wp2_with fail
  (with_reducible refine (sane03_any _).mono ?_); rintro e w1 ⟨rfl, hb⟩; have HL := hid (Lv.kept (Lv.alloc (vs := [.int .i64 sn, .int .i64 sd]) (T := 23) (Lv.alloc (vs := [.int .i64 rn, .int .i64 rd]) (T := 23) (Lv.start w))) hb); clear hb
  have hL := HL.out.facts
  simp only [liveAt, cellsAt, and_true, Nat.zero_add, Nat.reduceAdd, World.size_alloc] at hL
  go_wp2_with fail
  go_region_with (go_at_call 15; (with_reducible refine (c1.out _).mono ?_); rintro e w2 ⟨rfl, hb⟩; have HL2 := hid (HL.out.kept (((Below.refl _ _).drew).trans hb)); clear hb; have hL := HL2.out.facts; simp only [liveAt, cellsAt, and_true, Nat.zero_add, Nat.reduceAdd, World.size_alloc] at hL)
  
  all_goals
    have HL3 := hid (Lv.alloc (vs := [.int .i64 rn, .int .i64 rd, .int .i64 P, .int .i64 Q]) (T := 23) HL2.out)
    have HL4 := HL3.out
    simp only [World.size_alloc] at HL4
    have HL5 := hid HL4
    clear HL HL2 HL3 HL4 hL
    go_simp
    go_wp2_with fail
    go_loopw [33] (fun i wr => ∃ k : Nat, k ≤ 2 ∧ i = .int .i64 k ∧ Hid (Lv w wr [(w2.heap.size, [.int .i64 rn, .int .i64 rd, .int .i64 P, .int .i64 Q], 23), (w.heap.size + 1, [.int .i64 sn, .int .i64 sd], 23), (w.heap.size, [.int .i64 rn, .int .i64 rd], 23)])) (fun i _ => 2 - (intOf i).toNat)
    case atStart => exact ⟨0, by omega, rfl, HL5⟩
    case round =>
      obtain ⟨k, hk, rfl, hl⟩ := hrel
      clear HL5
      generalize w2.heap.size = B1 at *
      obtain ⟨wo, rfl⟩ : ∃ wo : World, wo = wr := ⟨_, rfl⟩
      by_cases hlt : k < 2
      · obtain ⟨xn, xd, f0, f1⟩ := lit4 hl k hlt
        have hz := hl.out.lt
        have hkb : decide ((k : Int) < 2) = true := by simp; omega
        have hX := Lv.alloc (vs := [.int .i64 xn, .int .i64 xd]) (T := 23) (hl.out)
        have HX := hid hX
        clear hX
        go_wp2_with fail
        have hS := sx_of HX.out.drew
        clear hl HX f0 f1 hz
        generalize wo.heap.size = BX at *
        go_region_held3 (fun w' => w'.cell? ⟨BX, 0, none⟩ = some (.int .i64 xn) ∧ w'.cell? ⟨BX, 1, none⟩ = some (.int .i64 xd) ∧ w'.cell? ⟨(w.heap.size + 1), 0, none⟩ = some (.int .i64 sn) ∧ w'.cell? ⟨(w.heap.size + 1), 1, none⟩ = some (.int .i64 sd) ∧ Lv w w' [(BX, [.int .i64 xn, .int .i64 xd], 23), (B1, [.int .i64 rn, .int .i64 rd, .int .i64 P, .int .i64 Q], 23), ((w.heap.size + 1), [.int .i64 sn, .int .i64 sd], 23), (w.heap.size, [.int .i64 rn, .int .i64 rd], 23)]) (first | assumption | exact sx_alloc (by assumption)) (first
          | (go_at_call 15; (with_reducible refine (keepX (c2.out _) (by assumption)).mono ?_); rintro e w' ⟨rfl, hS⟩))
        have HL6 := hid (Lv.alloc (vs := [.int .i64 sn, .int .i64 sd, .int .i64 U, .int .i64 V, .int .i64 xn, .int .i64 xd]) (T := 23) hS.2.2.2.2)
        go_simp
        go_wp2_with fail
        have HL8 := HL6
        clear HL6 hS
        generalize w'.heap.size = B3 at *
        go_loopw [44] (fun i wq => ∃ j : Nat, j ≤ 3 ∧ i = .int .i64 j ∧ Hid (Lv w wq [(B3, [.int .i64 sn, .int .i64 sd, .int .i64 U, .int .i64 V, .int .i64 xn, .int .i64 xd], 23), (BX, [.int .i64 xn, .int .i64 xd], 23), (B1, [.int .i64 rn, .int .i64 rd, .int .i64 P, .int .i64 Q], 23), (w.heap.size + 1, [.int .i64 sn, .int .i64 sd], 23), (w.heap.size, [.int .i64 rn, .int .i64 rd], 23)])) (fun i _ => 3 - (intOf i).toNat)
        case atStart => exact ⟨0, by omega, rfl, HL8⟩
        case round =>
          obtain ⟨j, hj, rfl, hl⟩ := hrel
          clear HL8
          obtain ⟨wp, rfl⟩ : ∃ wp : World, wp = wr := ⟨_, rfl⟩
          by_cases hlt2 : j < 3
          · obtain ⟨yn, yd, f0, f1⟩ := lit6 hl j hlt2
            have hz := hl.out.lt
            have hz2 := hl.out.drop.lt
            have hjb : decide ((j : Int) < 3) = true := by simp; omega
            have d1 := hid (fun w => mul_gen xn xd yn yd w)
            have d2 := hid (fun w => rmul_gen xn xd yn yd w)
            have d3 := hid (fun w => inv_gen xn xd w)
            have d4 := hid (fun w => rinv_gen xn xd w)
            have d5 := hid (fun w => cmp_any xn xd yn yd w)
            have d6 := hid (fun w => rcmp_any xn xd yn yd w)
            generalize (mulG xn xd yn yd).1.1 = M1 at *
            generalize (mulG xn xd yn yd).1.2 = M2 at *
            generalize (mulG xn xd yn yd).2 = M3 at *
            generalize (invG xn xd).1.1 = I1 at *
            generalize (invG xn xd).1.2 = I2 at *
            generalize (invG xn xd).2 = I3 at *
            generalize cmpR xn xd yn yd = K at *
            have HLa := hid (Lv.alloc (vs := [.int .i64 yn, .int .i64 yd]) (T := 23) (hl.out))
            have hL := hl.out.drop.facts
            simp only [liveAt, cellsAt, and_true, Nat.zero_add, Nat.reduceAdd, World.size_alloc] at hL
            go_wp2_with fail
            clear hL f0 f1
            (with_reducible refine (d1.out _).mono ?_); rintro e w4 ⟨rfl, hb⟩; have HLb := hid (Lv.alloc (vs := [.int .i64 M1, .int .i64 M2]) (T := 23) (HLa.out.kept hb)); clear hb HLa
            have hL := HLb.out.facts
            simp only [liveAt, cellsAt, and_true, Nat.zero_add, Nat.reduceAdd, World.size_alloc] at hL
            go_wp2_with fail
            clear hL
            (with_reducible refine (d2.out _).mono ?_); rintro e w5 ⟨rfl, hb⟩; have HLc := hid (Lv.alloc (vs := [.int .i64 M1, .int .i64 M2]) (T := 23) (HLb.out.kept hb)); clear hb HLb
            have hL := HLc.out.facts
            simp only [liveAt, cellsAt, and_true, Nat.zero_add, Nat.reduceAdd, World.size_alloc] at hL
            go_wp2_with fail
            clear hL
            (with_reducible refine (d3.out _).mono ?_); rintro e w6 ⟨rfl, hb⟩; have HLd := hid (Lv.alloc (vs := [.int .i64 I1, .int .i64 I2]) (T := 23) (HLc.out.kept hb)); clear hb HLc
            have hL := HLd.out.facts
            simp only [liveAt, cellsAt, and_true, Nat.zero_add, Nat.reduceAdd, World.size_alloc] at hL
            go_wp2_with fail
            clear hL
            (with_reducible refine (d4.out _).mono ?_); rintro e w7 ⟨rfl, hb⟩; have HLe := hid (Lv.alloc (vs := [.int .i64 I1, .int .i64 I2]) (T := 23) (HLd.out.kept hb)); clear hb HLd
            have hL := HLe.out.facts
            simp only [liveAt, cellsAt, and_true, Nat.zero_add, Nat.reduceAdd, World.size_alloc] at hL
            have nK : (K != K) = false := by simp
            have nM : (M3 != M3) = false := by simp
            have nI : (I3 != I3) = false := by simp
            go_wp2_with fail
            have hS := se_of HLe.out.drew
            clear hL HLe hl
            generalize wp.heap.size = BY at *
            go_region_held3 (fun w' => w'.cell? ⟨w7.heap.size, 0, none⟩ = some (.int .i64 I1) ∧ w'.cell? ⟨w7.heap.size, 1, none⟩ = some (.int .i64 I2) ∧ w'.cell? ⟨w6.heap.size, 0, none⟩ = some (.int .i64 I1) ∧ w'.cell? ⟨w6.heap.size, 1, none⟩ = some (.int .i64 I2) ∧ w'.cell? ⟨w5.heap.size, 0, none⟩ = some (.int .i64 M1) ∧ w'.cell? ⟨w5.heap.size, 1, none⟩ = some (.int .i64 M2) ∧ w'.cell? ⟨w4.heap.size, 0, none⟩ = some (.int .i64 M1) ∧ w'.cell? ⟨w4.heap.size, 1, none⟩ = some (.int .i64 M2) ∧ w'.cell? ⟨BY, 0, none⟩ = some (.int .i64 yn) ∧ w'.cell? ⟨BY, 1, none⟩ = some (.int .i64 yd) ∧ w'.cell? ⟨BX, 0, none⟩ = some (.int .i64 xn) ∧ w'.cell? ⟨BX, 1, none⟩ = some (.int .i64 xd) ∧ Lv w w' ((w7.heap.size, [.int .i64 I1, .int .i64 I2], 23) :: (w6.heap.size, [.int .i64 I1, .int .i64 I2], 23) :: (w5.heap.size, [.int .i64 M1, .int .i64 M2], 23) :: (w4.heap.size, [.int .i64 M1, .int .i64 M2], 23) :: (BY, [.int .i64 yn, .int .i64 yd], 23) :: (B3, [.int .i64 sn, .int .i64 sd, .int .i64 U, .int .i64 V, .int .i64 xn, .int .i64 xd], 23) :: (BX, [.int .i64 xn, .int .i64 xd], 23) :: [(B1, [.int .i64 rn, .int .i64 rd, .int .i64 P, .int .i64 Q], 23), ((w.heap.size + 1), [.int .i64 sn, .int .i64 sd], 23), (w.heap.size, [.int .i64 rn, .int .i64 rd], 23)])) (assumption) (first
              | (go_at_call 20; (with_reducible refine (keepE (d5.out _) (by assumption)).mono ?_); rintro e w' ⟨rfl, hS⟩)
              | (go_at_call 21; (with_reducible refine (keepE (d6.out _) (by assumption)).mono ?_); rintro e w' ⟨rfl, hS⟩))
            have hl9 := hS.2.2.2.2.2.2.2.2.2.2.2.2.drop.drop.drop.drop.drop
            have HL9 := hid hl9
            clear hS hl9
            go_wp2_with fail
            go_roundw
            case rel => first | exact ⟨j + 1, by omega, by go_num, HL9⟩ | ((repeat apply Exists.intro); exact ⟨⟨j + 1, by omega, by go_num, HL9⟩, rfl⟩)
            case measure => simp [intOf]; omega
          · have HL10 := hid hl.out.drop.drop
            go_wp2_with fail
            go_roundw
            case rel => first | exact ⟨k + 1, by omega, by go_num, HL10⟩ | ((repeat apply Exists.intro); exact ⟨⟨k + 1, by omega, by go_num, HL10⟩, rfl⟩)
            case measure => simp [intOf]; omega
      · go_wp2_with fail
        go_ret
        exact ⟨rfl, hl.out.below⟩
end Go.Proofs.Ytkdlpbpaoemcaaa
