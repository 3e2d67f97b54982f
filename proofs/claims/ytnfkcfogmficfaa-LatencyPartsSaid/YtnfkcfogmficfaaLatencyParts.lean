/- LatencyParts: the walk. -/
import Derived.Test.YtnfkcfogmficfaaLatencyLaws
import Derived.Test.YtnfkcfogmficfaaLive
import Derived.Deep.RegionHeld3
import Derived.Deep.DeepCutAuto
import Derived.Outline
namespace Go.Proofs.Ytnfkcfogmficfaa
open Go.ChangeShapes Go.WideShapes Go.ChangeAt Go.RowKit
set_option linter.unusedVariables false
set_option linter.unusedSimpArgs false

theorem Lv.set {W w : World} {b i : Nat} {v : Value} {vs : List Value} {T : TypeId} {L : List (Nat × List Value × TypeId)} (h : Lv W w ((b, vs, T) :: L)) (hb : W.heap.size ≤ b) (hL : ∀ x ∈ L, x.1 ≠ b) : Lv W (w.setCell ⟨b, i, none⟩ v) ((b, vs.set i v, T) :: L) := by
  have hbk : ∀ k, k < w.heap.size → k ≠ b → (w.setCell ⟨b, i, none⟩ v).heap[k]? = w.heap[k]? := fun k _ hk => Below.heap_setCell _ _ _ _ hk
  refine ⟨h.below.setCell (by show W.heap.size ≤ b; omega) _, ?_, h.live.2.turn hbk hL⟩
  have := heap_setCell_same w b i vs.toArray T v h.live.1
  simpa using this
theorem Lv.drop_to {W w : World} {x a b c d : Nat × List Value × TypeId} (h : Lv W w [x, a, b, c, d]) : Lv W w [x, c] := ⟨h.below, h.live.1, h.live.2.2.2.1, trivial⟩
theorem pick7 {W w : World} {b : Nat} {T : TypeId} {L : List (Nat × List Value × TypeId)} {y0 y1 y2 y3 y4 y5 y6 y7 y8 y9 y10 y11 y12 y13 y14 y15 y16 y17 y18 y19 y20 : Int} (h : Lv W w ((b, [.int .i64 y0, .int .i64 y1, .int .i64 y2, .int .i64 y3, .int .i64 y4, .int .i64 y5, .int .i64 y6, .int .i64 y7, .int .i64 y8, .int .i64 y9, .int .i64 y10, .int .i64 y11, .int .i64 y12, .int .i64 y13, .int .i64 y14, .int .i64 y15, .int .i64 y16, .int .i64 y17, .int .i64 y18, .int .i64 y19, .int .i64 y20], T) :: L)) (k : Nat) (hk : k < 3) :
    ∃ p0 p1 p2 p3 p4 p5 p6 : Int, w.cell? ⟨b, k * 7, none⟩ = some (.int .i64 p0) ∧ w.cell? ⟨b, k * 7 + 1, none⟩ = some (.int .i64 p1) ∧ w.cell? ⟨b, k * 7 + 2, none⟩ = some (.int .i64 p2) ∧ w.cell? ⟨b, k * 7 + 3, none⟩ = some (.int .i64 p3) ∧ w.cell? ⟨b, k * 7 + 4, none⟩ = some (.int .i64 p4) ∧ w.cell? ⟨b, k * 7 + 5, none⟩ = some (.int .i64 p5) ∧ w.cell? ⟨b, k * 7 + 6, none⟩ = some (.int .i64 p6) := by
  have hL := h.facts
  simp only [liveAt, cellsAt, Nat.zero_add, Nat.reduceAdd] at hL
  obtain ⟨⟨a0, _, a1, _, a2, _, a3, _, a4, _, a5, _, a6, _, a7, _, a8, _, a9, _, a10, _, a11, _, a12, _, a13, _, a14, _, a15, _, a16, _, a17, _, a18, _, a19, _, a20, _⟩, _⟩ := hL
  match k, hk with
  | 0, _ => exact ⟨_, _, _, _, _, _, _, a0, a1, a2, a3, a4, a5, a6⟩
  | 1, _ => exact ⟨_, _, _, _, _, _, _, a7, a8, a9, a10, a11, a12, a13⟩
  | 2, _ => exact ⟨_, _, _, _, _, _, _, a14, a15, a16, a17, a18, a19, a20⟩
theorem cells5 {W w : World} {x : Nat × List Value × TypeId} {b : Nat} {T : TypeId} {L : List (Nat × List Value × TypeId)} {z0 z1 z2 z3 z4 : Int} (h : Lv W w (x :: (b, [.int .i64 z0, .int .i64 z1, .int .i64 z2, .int .i64 z3, .int .i64 z4], T) :: L)) : w.cell? ⟨b, 0, none⟩ = some (.int .i64 z0) ∧ w.cell? ⟨b, 1, none⟩ = some (.int .i64 z1) ∧ w.cell? ⟨b, 2, none⟩ = some (.int .i64 z2) ∧ w.cell? ⟨b, 3, none⟩ = some (.int .i64 z3) ∧ w.cell? ⟨b, 4, none⟩ = some (.int .i64 z4) := by
  obtain ⟨yb, yv, yT⟩ := x
  have hL := h.facts
  simp only [liveAt, cellsAt, Nat.zero_add, Nat.reduceAdd] at hL
  obtain ⟨_, ⟨a0, _, a1, _, a2, _, a3, _, a4, _⟩, _⟩ := hL
  exact ⟨a0, a1, a2, a3, a4⟩
theorem cells55 {W w : World} {b c : Nat} {T U : TypeId} {L : List (Nat × List Value × TypeId)} {z0 z1 z2 z3 z4 u0 u1 u2 u3 u4 : Int} (h : Lv W w ((c, [.int .i64 u0, .int .i64 u1, .int .i64 u2, .int .i64 u3, .int .i64 u4], U) :: (b, [.int .i64 z0, .int .i64 z1, .int .i64 z2, .int .i64 z3, .int .i64 z4], T) :: L)) : w.cell? ⟨b, 0, none⟩ = some (.int .i64 z0) ∧ w.cell? ⟨b, 1, none⟩ = some (.int .i64 z1) ∧ w.cell? ⟨b, 2, none⟩ = some (.int .i64 z2) ∧ w.cell? ⟨b, 3, none⟩ = some (.int .i64 z3) ∧ w.cell? ⟨b, 4, none⟩ = some (.int .i64 z4) ∧ w.cell? ⟨c, 0, none⟩ = some (.int .i64 u0) ∧ w.cell? ⟨c, 1, none⟩ = some (.int .i64 u1) ∧ w.cell? ⟨c, 2, none⟩ = some (.int .i64 u2) ∧ w.cell? ⟨c, 3, none⟩ = some (.int .i64 u3) ∧ w.cell? ⟨c, 4, none⟩ = some (.int .i64 u4) := by
  have hL := h.facts
  simp only [liveAt, cellsAt, Nat.zero_add, Nat.reduceAdd] at hL
  obtain ⟨⟨b0, _, b1, _, b2, _, b3, _, b4, _⟩, ⟨a0, _, a1, _, a2, _, a3, _, a4, _⟩, _⟩ := hL
  exact ⟨a0, a1, a2, a3, a4, b0, b1, b2, b3, b4⟩
theorem cells7 {W w : World} {b : Nat} {x0 x1 x2 x3 x4 x5 x6 : Int} {y : Nat × List Value × TypeId} {T : TypeId} (h : Lv W w [y, (b, [.int .i64 x0, .int .i64 x1, .int .i64 x2, .int .i64 x3, .int .i64 x4, .int .i64 x5, .int .i64 x6], T)]) : w.cell? ⟨b, 0, none⟩ = some (.int .i64 x0) ∧ w.cell? ⟨b, 1, none⟩ = some (.int .i64 x1) ∧ w.cell? ⟨b, 2, none⟩ = some (.int .i64 x2) ∧ w.cell? ⟨b, 3, none⟩ = some (.int .i64 x3) ∧ w.cell? ⟨b, 4, none⟩ = some (.int .i64 x4) ∧ w.cell? ⟨b, 5, none⟩ = some (.int .i64 x5) ∧ w.cell? ⟨b, 6, none⟩ = some (.int .i64 x6) := by
  obtain ⟨yb, yv, yT⟩ := y
  have hL := h.facts
  simp only [liveAt, cellsAt, Nat.zero_add, Nat.reduceAdd] at hL
  obtain ⟨_, ⟨a0, _, a1, _, a2, _, a3, _, a4, _, a5, _, a6, _⟩, _⟩ := hL
  exact ⟨a0, a1, a2, a3, a4, a5, a6⟩
set_option maxRecDepth 100000 in
set_option maxHeartbeats 16000000 in
theorem latencyParts_walk (jm jr jd jg jp jt jl : Int) (l1 l2 l3 l4 l5 n : Int) (w : World) :
    Calls Try.prog 4 #[.agg #[.int .i64 jm, .int .i64 jr, .int .i64 jd, .int .i64 jg, .int .i64 jp, .int .i64 jt, .int .i64 jl], .agg #[.int .i64 l1, .int .i64 l2, .int .i64 l3, .int .i64 l4, .int .i64 l5], .int .i64 n] w fun e w' => e = .returned (.bool true) ∧ Below w.heap.size w w' := by
  have c0 := hid (fun w => mod_any jm 100000 (by omega) (by omega) w)
  have a0 := Int.emod_nonneg jm (show (100000 : Int) ≠ 0 by omega)
  have b0 := Int.emod_lt_of_pos jm (show (0 : Int) < 100000 by omega)
  generalize jm % 100000 = M0 at *
  have c1 := hid (fun w => mod_any jr 100000 (by omega) (by omega) w)
  have a1 := Int.emod_nonneg jr (show (100000 : Int) ≠ 0 by omega)
  have b1 := Int.emod_lt_of_pos jr (show (0 : Int) < 100000 by omega)
  generalize jr % 100000 = M1 at *
  have c2 := hid (fun w => mod_any jd 100000 (by omega) (by omega) w)
  have a2 := Int.emod_nonneg jd (show (100000 : Int) ≠ 0 by omega)
  have b2 := Int.emod_lt_of_pos jd (show (0 : Int) < 100000 by omega)
  generalize jd % 100000 = M2 at *
  have c3 := hid (fun w => mod_any jg 5000 (by omega) (by omega) w)
  have a3 := Int.emod_nonneg jg (show (5000 : Int) ≠ 0 by omega)
  have b3 := Int.emod_lt_of_pos jg (show (0 : Int) < 5000 by omega)
  generalize jg % 5000 = M3 at *
  have c4 := hid (fun w => mod_any jp 500 (by omega) (by omega) w)
  have a4 := Int.emod_nonneg jp (show (500 : Int) ≠ 0 by omega)
  have b4 := Int.emod_lt_of_pos jp (show (0 : Int) < 500 by omega)
  generalize jp % 500 = M4 at *
  have c5 := hid (fun w => mod_any jt 5000 (by omega) (by omega) w)
  have a5 := Int.emod_nonneg jt (show (5000 : Int) ≠ 0 by omega)
  have b5 := Int.emod_lt_of_pos jt (show (0 : Int) < 5000 by omega)
  generalize jt % 5000 = M5 at *
  have c6 := hid (fun w => mod_any jl 5000 (by omega) (by omega) w)
  have a6 := Int.emod_nonneg jl (show (5000 : Int) ≠ 0 by omega)
  have b6 := Int.emod_lt_of_pos jl (show (0 : Int) < 5000 by omega)
  generalize jl % 5000 = M6 at *
  have c7 := hid (fun w => mod_any n 7 (by omega) (by omega) w)
  have a7 := Int.emod_nonneg n (show (7 : Int) ≠ 0 by omega)
  have b7 := Int.emod_lt_of_pos n (show (0 : Int) < 7 by omega)
  generalize n % 7 = M7 at *
  have hl0 := Lv.alloc (vs := [.int .i64 l1, .int .i64 l2, .int .i64 l3, .int .i64 l4, .int .i64 l5]) (T := 29) (Lv.alloc (vs := [.int .i64 jm, .int .i64 jr, .int .i64 jd, .int .i64 jg, .int .i64 jp, .int .i64 jt, .int .i64 jl]) (T := 27) (Lv.start w))
  simp only [World.size_alloc] at hl0
  have HL0 := hid hl0
  clear hl0
  go_enter Try.func4, Try.ntmps4
  go_wp2_with fail
  (with_reducible refine (sane26_any _).mono ?_); rintro e w1 ⟨rfl, hb⟩; have HL1 := hid (HL0.out.kept hb); clear hb HL0
  go_upto_region 3 with (fail)
  generalize w.heap.size + 1 = B1 at *
  go_cut [7] (fun v wx => ∃ b : Nat, v = .pointer (some ⟨b, 0, none⟩) ∧ Hid (Lv w wx [(b, [.int .i64 (8000 + M0), .int .i64 (1000 + M1), .int .i64 (1000 + M2), .int .i64 M3, .int .i64 (16 + M4), .int .i64 M5, .int .i64 M6], 27), (B1, [.int .i64 l1, .int .i64 l2, .int .i64 l3, .int .i64 l4, .int .i64 l5], 29), (w.heap.size, [.int .i64 jm, .int .i64 jr, .int .i64 jd, .int .i64 jg, .int .i64 jp, .int .i64 jt, .int .i64 jl], 27)]))
  case first =>
    have q0 : IntKind.i64.wrap (8000 + M0) = 8000 + M0 := IntWalk.i64_in _ (by omega)
    have q1 : IntKind.i64.wrap (1000 + M1) = 1000 + M1 := IntWalk.i64_in _ (by omega)
    have q2 : IntKind.i64.wrap (1000 + M2) = 1000 + M2 := IntWalk.i64_in _ (by omega)
    have q4 : IntKind.i64.wrap (16 + M4) = 16 + M4 := IntWalk.i64_in _ (by omega)
    have hl := HL1.out
    have hc := cells7 hl
    clear HL1
    go_region_held3 (fun w' => w'.cell? ⟨w.heap.size, 0, none⟩ = some (.int .i64 jm) ∧ w'.cell? ⟨w.heap.size, 1, none⟩ = some (.int .i64 jr) ∧ w'.cell? ⟨w.heap.size, 2, none⟩ = some (.int .i64 jd) ∧ w'.cell? ⟨w.heap.size, 3, none⟩ = some (.int .i64 jg) ∧ w'.cell? ⟨w.heap.size, 4, none⟩ = some (.int .i64 jp) ∧ w'.cell? ⟨w.heap.size, 5, none⟩ = some (.int .i64 jt) ∧ w'.cell? ⟨w.heap.size, 6, none⟩ = some (.int .i64 jl)) (first | assumption | exact cells7 (Lv.kept hl (by go_grown))) (first
      | (go_at_call 15; (with_reducible refine (c0.out _).mono ?_); rintro e w8 ⟨rfl, rfl⟩)
      | (go_at_call 15; (with_reducible refine (c1.out _).mono ?_); rintro e w8 ⟨rfl, rfl⟩)
      | (go_at_call 15; (with_reducible refine (c2.out _).mono ?_); rintro e w8 ⟨rfl, rfl⟩)
      | (go_at_call 15; (with_reducible refine (c3.out _).mono ?_); rintro e w8 ⟨rfl, rfl⟩)
      | (go_at_call 15; (with_reducible refine (c4.out _).mono ?_); rintro e w8 ⟨rfl, rfl⟩)
      | (go_at_call 15; (with_reducible refine (c5.out _).mono ?_); rintro e w8 ⟨rfl, rfl⟩)
      | (go_at_call 15; (with_reducible refine (c6.out _).mono ?_); rintro e w8 ⟨rfl, rfl⟩))
    all_goals go_wp2_with fail
    all_goals go_meet
    all_goals exact ⟨_, rfl, hid (Lv.drew (Lv.alloc hl))⟩
  case rest =>
    obtain ⟨B7, rfl, HL2⟩ := hcut
    go_outline
    clear HL1
    generalize 8000 + M0 = k0 at *
    generalize 1000 + M1 = k1 at *
    generalize 1000 + M2 = k2 at *
    generalize 16 + M4 = k4 at *
    have hL := HL2.out.facts
    simp only [liveAt, cellsAt, and_true, Nat.zero_add, Nat.reduceAdd, World.size_alloc] at hL
    clear c0 c1 c2 c3 c4 c5 c6
    have hz0 := HL2.out.size
    go_upto_region 5 with (fail)
    have HL3 := hid (Lv.alloc (vs := [.int .i64 k0, .int .i64 k1, .int .i64 k2, .int .i64 M3, .int .i64 k4, .int .i64 M5, .int .i64 M6]) (T := 27) HL2.out)
    have hz := HL2.out.lt
    have hy1 := HL2.out.drop.lt
    have hy2 := HL2.out.drop.drop.lt
    clear hL HL2
    generalize wc.alloc (.cells #[.int .i64 k0, .int .i64 k1, .int .i64 k2, .int .i64 M3, .int .i64 k4, .int .i64 M5, .int .i64 M6] 27) = W4 at *
    generalize wc.heap.size = B8 at *
    have n1 : B8 ≠ B7 := by omega
    have n2 : B7 ≠ B8 := by omega
    have n3 : B8 ≠ B1 := by omega
    have n4 : B1 ≠ B8 := by omega
    have n5 : B8 ≠ w.heap.size := by omega
    have n6 : w.heap.size ≠ B8 := by omega
    have hL := HL3.out.facts
    simp only [liveAt, cellsAt, and_true, Nat.zero_add, Nat.reduceAdd, World.size_alloc] at hL
    have h7 : M7 = 0 ∨ M7 = 1 ∨ M7 = 2 ∨ M7 = 3 ∨ M7 = 4 ∨ (M7 ≠ 0 ∧ M7 ≠ 1 ∧ M7 ≠ 2 ∧ M7 ≠ 3 ∧ M7 ≠ 4) := by omega
    rcases h7 with h7 | h7 | h7 | h7 | h7 | ⟨h70, h71, h72, h73, h74⟩
    · subst h7
      have hs := HL3.out.set (i := 3) (v := .int .i64 jg) (by omega) (by simp; omega)
      simp only [List.set_cons_zero, List.set_cons_succ] at hs
      have HL5 := Lv.alloc (vs := [.int .i64 jm, .int .i64 jr, .int .i64 jd, .int .i64 jg, .int .i64 jp, .int .i64 jt, .int .i64 jl, .int .i64 k0, .int .i64 k1, .int .i64 k2, .int .i64 M3, .int .i64 k4, .int .i64 M5, .int .i64 M6, .int .i64 k0, .int .i64 k1, .int .i64 k2, .int .i64 jg, .int .i64 k4, .int .i64 M5, .int .i64 M6]) (T := 27) hs
      have HL6 := hid HL5.drop_to
      clear HL5 HL3 hs
      go_upto_region 17 with (go_at_call 15; (with_reducible refine (c7.out _).mono ?_); rintro e w8 ⟨rfl, rfl⟩)
      clear hL c7
      try simp only [World.size_setCell] at HL6
      generalize W4.heap.size = B9 at *
      go_loopw [76] (fun i wr => ∃ x : Nat, x ≤ 3 ∧ i = .int .i64 x ∧ Hid (Lv w wr [(B9, [.int .i64 jm, .int .i64 jr, .int .i64 jd, .int .i64 jg, .int .i64 jp, .int .i64 jt, .int .i64 jl, .int .i64 k0, .int .i64 k1, .int .i64 k2, .int .i64 M3, .int .i64 k4, .int .i64 M5, .int .i64 M6, .int .i64 k0, .int .i64 k1, .int .i64 k2, .int .i64 jg, .int .i64 k4, .int .i64 M5, .int .i64 M6], 27), (B1, [.int .i64 l1, .int .i64 l2, .int .i64 l3, .int .i64 l4, .int .i64 l5], 29)])) (fun i _ => 3 - (intOf i).toNat)
      case atStart => exact ⟨0, by omega, rfl, HL6⟩
      case round =>
        obtain ⟨x, hx, rfl, hl⟩ := hrel
        clear HL6
        obtain ⟨wo, rfl⟩ : ∃ wo : World, wo = wr := ⟨_, rfl⟩
        by_cases hlt : x < 3
        · obtain ⟨x0, x1, x2, x3, x4, x5, x6, g0, g1, g2, g3, g4, g5, g6⟩ := pick7 hl.out x hlt
          have hkb : decide ((x : Int) < 3) = true := by simp; omega
          have d1 := hid (fun w => of_any x0 x1 x2 x3 x4 x5 x6 w)
          have d2 := hid (fun w => rof_any x0 x1 x2 x3 x4 x5 x6 w)
          generalize ofV x0 x1 x2 x3 x4 x5 x6 = V at *
          obtain ⟨⟨A1, A2, A3, A4, A5⟩, A6⟩ := V
          simp only at d1 d2
          have d3 := hid (fun w => total_any A1 A2 A3 A4 A5 w)
          have d4 := hid (fun w => rtotal_any A1 A2 A3 A4 A5 w)
          generalize totV A1 A2 A3 A4 A5 = TT at *
          have tt : (TT != TT) = false := by simp
          have HL7 := hid (Lv.alloc (vs := [.int .i64 x0, .int .i64 x1, .int .i64 x2, .int .i64 x3, .int .i64 x4, .int .i64 x5, .int .i64 x6]) (T := 27) hl.out)
          go_upto_region 19 with (fail)
          clear g0 g1 g2 g3 g4 g5 g6 hl
          generalize wo.alloc (.cells #[.int .i64 x0, .int .i64 x1, .int .i64 x2, .int .i64 x3, .int .i64 x4, .int .i64 x5, .int .i64 x6] 27) = W5 at *
          generalize wo.heap.size = B10 at *
          have hL := HL7.out.facts
          simp only [liveAt, cellsAt, and_true, Nat.zero_add, Nat.reduceAdd, World.size_alloc] at hL
          go_wp2_with fail
          clear hL
          (with_reducible refine (d1.out _).mono ?_); rintro e v1 ⟨rfl, hb⟩; have HL8 := hid (Lv.alloc (vs := [.int .i64 A1, .int .i64 A2, .int .i64 A3, .int .i64 A4, .int .i64 A5]) (T := 29) (HL7.out.kept hb)); clear hb HL7 d1
          have hL := HL8.out.facts
          simp only [liveAt, cellsAt, and_true, Nat.zero_add, Nat.reduceAdd, World.size_alloc] at hL
          go_wp2_with fail
          clear hL
          (with_reducible refine (d2.out _).mono ?_); rintro e v2 ⟨rfl, hb⟩; have HL9 := hid (Lv.alloc (vs := [.int .i64 A1, .int .i64 A2, .int .i64 A3, .int .i64 A4, .int .i64 A5]) (T := 29) (HL8.out.kept hb)); clear hb HL8 d2
          go_upto_region 21 with (fail)
          have hl := HL9.out
          clear HL9
          generalize v2.alloc (.cells #[.int .i64 A1, .int .i64 A2, .int .i64 A3, .int .i64 A4, .int .i64 A5] 29) = W6 at *
          generalize v2.heap.size = B12 at *
          generalize v1.heap.size = B11 at *
          have hl := hl.drew
          have hc := cells55 hl
          go_region_held3 (fun w' => w'.cell? ⟨B11, 0, none⟩ = some (.int .i64 A1) ∧ w'.cell? ⟨B11, 1, none⟩ = some (.int .i64 A2) ∧ w'.cell? ⟨B11, 2, none⟩ = some (.int .i64 A3) ∧ w'.cell? ⟨B11, 3, none⟩ = some (.int .i64 A4) ∧ w'.cell? ⟨B11, 4, none⟩ = some (.int .i64 A5) ∧ w'.cell? ⟨B12, 0, none⟩ = some (.int .i64 A1) ∧ w'.cell? ⟨B12, 1, none⟩ = some (.int .i64 A2) ∧ w'.cell? ⟨B12, 2, none⟩ = some (.int .i64 A3) ∧ w'.cell? ⟨B12, 3, none⟩ = some (.int .i64 A4) ∧ w'.cell? ⟨B12, 4, none⟩ = some (.int .i64 A5)) (exact cells55 (by assumption)) (first
            | (go_at_call 20; (with_reducible refine (d3.out _).mono ?_); rintro e w8 ⟨rfl, hb⟩; have hl := Lv.kept (by assumption) hb; clear hb)
            | (go_at_call 21; (with_reducible refine (d4.out _).mono ?_); rintro e w8 ⟨rfl, hb⟩; have hl := Lv.kept (by assumption) hb; clear hb))
          have K9 := hid hl.drop.drop.drop
          clear hl d3 d4 tt
          go_wp2_with fail
          go_roundw
          case rel => first | exact ⟨x + 1, by omega, by go_num, K9⟩ | ((repeat apply Exists.intro); exact ⟨⟨x + 1, by omega, by go_num, K9⟩, rfl⟩)
          case measure => simp [intOf]; omega
        · have d3 := hid (fun w => total_any l1 l2 l3 l4 l5 w)
          have d4 := hid (fun w => rtotal_any l1 l2 l3 l4 l5 w)
          generalize totV l1 l2 l3 l4 l5 = TT at *
          have tt : (TT == TT) = true := by simp
          go_wp2_with fail
          have hl := hl.out
          have hc := cells5 hl
          have hl := hl.drew
          have hc := cells5 hl
          go_region_held3 (fun w' => w'.cell? ⟨B1, 0, none⟩ = some (.int .i64 l1) ∧ w'.cell? ⟨B1, 1, none⟩ = some (.int .i64 l2) ∧ w'.cell? ⟨B1, 2, none⟩ = some (.int .i64 l3) ∧ w'.cell? ⟨B1, 3, none⟩ = some (.int .i64 l4) ∧ w'.cell? ⟨B1, 4, none⟩ = some (.int .i64 l5)) (first | assumption | exact cells5 (by assumption)) (first
            | (go_at_call 20; (with_reducible refine (d3.out _).mono ?_); rintro e w8 ⟨rfl, hb⟩; have hl := Lv.kept (by assumption) hb; clear hb)
            | (go_at_call 21; (with_reducible refine (d4.out _).mono ?_); rintro e w8 ⟨rfl, hb⟩; have hl := Lv.kept (by assumption) hb; clear hb))
          all_goals go_wp2_with fail
          all_goals go_ret
          all_goals exact ⟨rfl, hl.below⟩
    · subst h7
      have hs := HL3.out.set (i := 4) (v := .int .i64 jp) (by omega) (by simp; omega)
      simp only [List.set_cons_zero, List.set_cons_succ] at hs
      have HL5 := Lv.alloc (vs := [.int .i64 jm, .int .i64 jr, .int .i64 jd, .int .i64 jg, .int .i64 jp, .int .i64 jt, .int .i64 jl, .int .i64 k0, .int .i64 k1, .int .i64 k2, .int .i64 M3, .int .i64 k4, .int .i64 M5, .int .i64 M6, .int .i64 k0, .int .i64 k1, .int .i64 k2, .int .i64 M3, .int .i64 jp, .int .i64 M5, .int .i64 M6]) (T := 27) hs
      have HL6 := hid HL5.drop_to
      clear HL5 HL3 hs
      go_upto_region 17 with (go_at_call 15; (with_reducible refine (c7.out _).mono ?_); rintro e w8 ⟨rfl, rfl⟩)
      clear hL c7
      try simp only [World.size_setCell] at HL6
      generalize W4.heap.size = B9 at *
      go_loopw [76] (fun i wr => ∃ x : Nat, x ≤ 3 ∧ i = .int .i64 x ∧ Hid (Lv w wr [(B9, [.int .i64 jm, .int .i64 jr, .int .i64 jd, .int .i64 jg, .int .i64 jp, .int .i64 jt, .int .i64 jl, .int .i64 k0, .int .i64 k1, .int .i64 k2, .int .i64 M3, .int .i64 k4, .int .i64 M5, .int .i64 M6, .int .i64 k0, .int .i64 k1, .int .i64 k2, .int .i64 M3, .int .i64 jp, .int .i64 M5, .int .i64 M6], 27), (B1, [.int .i64 l1, .int .i64 l2, .int .i64 l3, .int .i64 l4, .int .i64 l5], 29)])) (fun i _ => 3 - (intOf i).toNat)
      case atStart => exact ⟨0, by omega, rfl, HL6⟩
      case round =>
        obtain ⟨x, hx, rfl, hl⟩ := hrel
        clear HL6
        obtain ⟨wo, rfl⟩ : ∃ wo : World, wo = wr := ⟨_, rfl⟩
        by_cases hlt : x < 3
        · obtain ⟨x0, x1, x2, x3, x4, x5, x6, g0, g1, g2, g3, g4, g5, g6⟩ := pick7 hl.out x hlt
          have hkb : decide ((x : Int) < 3) = true := by simp; omega
          have d1 := hid (fun w => of_any x0 x1 x2 x3 x4 x5 x6 w)
          have d2 := hid (fun w => rof_any x0 x1 x2 x3 x4 x5 x6 w)
          generalize ofV x0 x1 x2 x3 x4 x5 x6 = V at *
          obtain ⟨⟨A1, A2, A3, A4, A5⟩, A6⟩ := V
          simp only at d1 d2
          have d3 := hid (fun w => total_any A1 A2 A3 A4 A5 w)
          have d4 := hid (fun w => rtotal_any A1 A2 A3 A4 A5 w)
          generalize totV A1 A2 A3 A4 A5 = TT at *
          have tt : (TT != TT) = false := by simp
          have HL7 := hid (Lv.alloc (vs := [.int .i64 x0, .int .i64 x1, .int .i64 x2, .int .i64 x3, .int .i64 x4, .int .i64 x5, .int .i64 x6]) (T := 27) hl.out)
          go_upto_region 19 with (fail)
          clear g0 g1 g2 g3 g4 g5 g6 hl
          generalize wo.alloc (.cells #[.int .i64 x0, .int .i64 x1, .int .i64 x2, .int .i64 x3, .int .i64 x4, .int .i64 x5, .int .i64 x6] 27) = W5 at *
          generalize wo.heap.size = B10 at *
          have hL := HL7.out.facts
          simp only [liveAt, cellsAt, and_true, Nat.zero_add, Nat.reduceAdd, World.size_alloc] at hL
          go_wp2_with fail
          clear hL
          (with_reducible refine (d1.out _).mono ?_); rintro e v1 ⟨rfl, hb⟩; have HL8 := hid (Lv.alloc (vs := [.int .i64 A1, .int .i64 A2, .int .i64 A3, .int .i64 A4, .int .i64 A5]) (T := 29) (HL7.out.kept hb)); clear hb HL7 d1
          have hL := HL8.out.facts
          simp only [liveAt, cellsAt, and_true, Nat.zero_add, Nat.reduceAdd, World.size_alloc] at hL
          go_wp2_with fail
          clear hL
          (with_reducible refine (d2.out _).mono ?_); rintro e v2 ⟨rfl, hb⟩; have HL9 := hid (Lv.alloc (vs := [.int .i64 A1, .int .i64 A2, .int .i64 A3, .int .i64 A4, .int .i64 A5]) (T := 29) (HL8.out.kept hb)); clear hb HL8 d2
          go_upto_region 21 with (fail)
          have hl := HL9.out
          clear HL9
          generalize v2.alloc (.cells #[.int .i64 A1, .int .i64 A2, .int .i64 A3, .int .i64 A4, .int .i64 A5] 29) = W6 at *
          generalize v2.heap.size = B12 at *
          generalize v1.heap.size = B11 at *
          have hl := hl.drew
          have hc := cells55 hl
          go_region_held3 (fun w' => w'.cell? ⟨B11, 0, none⟩ = some (.int .i64 A1) ∧ w'.cell? ⟨B11, 1, none⟩ = some (.int .i64 A2) ∧ w'.cell? ⟨B11, 2, none⟩ = some (.int .i64 A3) ∧ w'.cell? ⟨B11, 3, none⟩ = some (.int .i64 A4) ∧ w'.cell? ⟨B11, 4, none⟩ = some (.int .i64 A5) ∧ w'.cell? ⟨B12, 0, none⟩ = some (.int .i64 A1) ∧ w'.cell? ⟨B12, 1, none⟩ = some (.int .i64 A2) ∧ w'.cell? ⟨B12, 2, none⟩ = some (.int .i64 A3) ∧ w'.cell? ⟨B12, 3, none⟩ = some (.int .i64 A4) ∧ w'.cell? ⟨B12, 4, none⟩ = some (.int .i64 A5)) (exact cells55 (by assumption)) (first
            | (go_at_call 20; (with_reducible refine (d3.out _).mono ?_); rintro e w8 ⟨rfl, hb⟩; have hl := Lv.kept (by assumption) hb; clear hb)
            | (go_at_call 21; (with_reducible refine (d4.out _).mono ?_); rintro e w8 ⟨rfl, hb⟩; have hl := Lv.kept (by assumption) hb; clear hb))
          have K9 := hid hl.drop.drop.drop
          clear hl d3 d4 tt
          go_wp2_with fail
          go_roundw
          case rel => first | exact ⟨x + 1, by omega, by go_num, K9⟩ | ((repeat apply Exists.intro); exact ⟨⟨x + 1, by omega, by go_num, K9⟩, rfl⟩)
          case measure => simp [intOf]; omega
        · have d3 := hid (fun w => total_any l1 l2 l3 l4 l5 w)
          have d4 := hid (fun w => rtotal_any l1 l2 l3 l4 l5 w)
          generalize totV l1 l2 l3 l4 l5 = TT at *
          have tt : (TT == TT) = true := by simp
          go_wp2_with fail
          have hl := hl.out
          have hc := cells5 hl
          have hl := hl.drew
          have hc := cells5 hl
          go_region_held3 (fun w' => w'.cell? ⟨B1, 0, none⟩ = some (.int .i64 l1) ∧ w'.cell? ⟨B1, 1, none⟩ = some (.int .i64 l2) ∧ w'.cell? ⟨B1, 2, none⟩ = some (.int .i64 l3) ∧ w'.cell? ⟨B1, 3, none⟩ = some (.int .i64 l4) ∧ w'.cell? ⟨B1, 4, none⟩ = some (.int .i64 l5)) (first | assumption | exact cells5 (by assumption)) (first
            | (go_at_call 20; (with_reducible refine (d3.out _).mono ?_); rintro e w8 ⟨rfl, hb⟩; have hl := Lv.kept (by assumption) hb; clear hb)
            | (go_at_call 21; (with_reducible refine (d4.out _).mono ?_); rintro e w8 ⟨rfl, hb⟩; have hl := Lv.kept (by assumption) hb; clear hb))
          all_goals go_wp2_with fail
          all_goals go_ret
          all_goals exact ⟨rfl, hl.below⟩
    · subst h7
      have hs := HL3.out.set (i := 5) (v := .int .i64 jt) (by omega) (by simp; omega)
      simp only [List.set_cons_zero, List.set_cons_succ] at hs
      have HL5 := Lv.alloc (vs := [.int .i64 jm, .int .i64 jr, .int .i64 jd, .int .i64 jg, .int .i64 jp, .int .i64 jt, .int .i64 jl, .int .i64 k0, .int .i64 k1, .int .i64 k2, .int .i64 M3, .int .i64 k4, .int .i64 M5, .int .i64 M6, .int .i64 k0, .int .i64 k1, .int .i64 k2, .int .i64 M3, .int .i64 k4, .int .i64 jt, .int .i64 M6]) (T := 27) hs
      have HL6 := hid HL5.drop_to
      clear HL5 HL3 hs
      go_upto_region 17 with (go_at_call 15; (with_reducible refine (c7.out _).mono ?_); rintro e w8 ⟨rfl, rfl⟩)
      clear hL c7
      try simp only [World.size_setCell] at HL6
      generalize W4.heap.size = B9 at *
      go_loopw [76] (fun i wr => ∃ x : Nat, x ≤ 3 ∧ i = .int .i64 x ∧ Hid (Lv w wr [(B9, [.int .i64 jm, .int .i64 jr, .int .i64 jd, .int .i64 jg, .int .i64 jp, .int .i64 jt, .int .i64 jl, .int .i64 k0, .int .i64 k1, .int .i64 k2, .int .i64 M3, .int .i64 k4, .int .i64 M5, .int .i64 M6, .int .i64 k0, .int .i64 k1, .int .i64 k2, .int .i64 M3, .int .i64 k4, .int .i64 jt, .int .i64 M6], 27), (B1, [.int .i64 l1, .int .i64 l2, .int .i64 l3, .int .i64 l4, .int .i64 l5], 29)])) (fun i _ => 3 - (intOf i).toNat)
      case atStart => exact ⟨0, by omega, rfl, HL6⟩
      case round =>
        obtain ⟨x, hx, rfl, hl⟩ := hrel
        clear HL6
        obtain ⟨wo, rfl⟩ : ∃ wo : World, wo = wr := ⟨_, rfl⟩
        by_cases hlt : x < 3
        · obtain ⟨x0, x1, x2, x3, x4, x5, x6, g0, g1, g2, g3, g4, g5, g6⟩ := pick7 hl.out x hlt
          have hkb : decide ((x : Int) < 3) = true := by simp; omega
          have d1 := hid (fun w => of_any x0 x1 x2 x3 x4 x5 x6 w)
          have d2 := hid (fun w => rof_any x0 x1 x2 x3 x4 x5 x6 w)
          generalize ofV x0 x1 x2 x3 x4 x5 x6 = V at *
          obtain ⟨⟨A1, A2, A3, A4, A5⟩, A6⟩ := V
          simp only at d1 d2
          have d3 := hid (fun w => total_any A1 A2 A3 A4 A5 w)
          have d4 := hid (fun w => rtotal_any A1 A2 A3 A4 A5 w)
          generalize totV A1 A2 A3 A4 A5 = TT at *
          have tt : (TT != TT) = false := by simp
          have HL7 := hid (Lv.alloc (vs := [.int .i64 x0, .int .i64 x1, .int .i64 x2, .int .i64 x3, .int .i64 x4, .int .i64 x5, .int .i64 x6]) (T := 27) hl.out)
          go_upto_region 19 with (fail)
          clear g0 g1 g2 g3 g4 g5 g6 hl
          generalize wo.alloc (.cells #[.int .i64 x0, .int .i64 x1, .int .i64 x2, .int .i64 x3, .int .i64 x4, .int .i64 x5, .int .i64 x6] 27) = W5 at *
          generalize wo.heap.size = B10 at *
          have hL := HL7.out.facts
          simp only [liveAt, cellsAt, and_true, Nat.zero_add, Nat.reduceAdd, World.size_alloc] at hL
          go_wp2_with fail
          clear hL
          (with_reducible refine (d1.out _).mono ?_); rintro e v1 ⟨rfl, hb⟩; have HL8 := hid (Lv.alloc (vs := [.int .i64 A1, .int .i64 A2, .int .i64 A3, .int .i64 A4, .int .i64 A5]) (T := 29) (HL7.out.kept hb)); clear hb HL7 d1
          have hL := HL8.out.facts
          simp only [liveAt, cellsAt, and_true, Nat.zero_add, Nat.reduceAdd, World.size_alloc] at hL
          go_wp2_with fail
          clear hL
          (with_reducible refine (d2.out _).mono ?_); rintro e v2 ⟨rfl, hb⟩; have HL9 := hid (Lv.alloc (vs := [.int .i64 A1, .int .i64 A2, .int .i64 A3, .int .i64 A4, .int .i64 A5]) (T := 29) (HL8.out.kept hb)); clear hb HL8 d2
          go_upto_region 21 with (fail)
          have hl := HL9.out
          clear HL9
          generalize v2.alloc (.cells #[.int .i64 A1, .int .i64 A2, .int .i64 A3, .int .i64 A4, .int .i64 A5] 29) = W6 at *
          generalize v2.heap.size = B12 at *
          generalize v1.heap.size = B11 at *
          have hl := hl.drew
          have hc := cells55 hl
          go_region_held3 (fun w' => w'.cell? ⟨B11, 0, none⟩ = some (.int .i64 A1) ∧ w'.cell? ⟨B11, 1, none⟩ = some (.int .i64 A2) ∧ w'.cell? ⟨B11, 2, none⟩ = some (.int .i64 A3) ∧ w'.cell? ⟨B11, 3, none⟩ = some (.int .i64 A4) ∧ w'.cell? ⟨B11, 4, none⟩ = some (.int .i64 A5) ∧ w'.cell? ⟨B12, 0, none⟩ = some (.int .i64 A1) ∧ w'.cell? ⟨B12, 1, none⟩ = some (.int .i64 A2) ∧ w'.cell? ⟨B12, 2, none⟩ = some (.int .i64 A3) ∧ w'.cell? ⟨B12, 3, none⟩ = some (.int .i64 A4) ∧ w'.cell? ⟨B12, 4, none⟩ = some (.int .i64 A5)) (exact cells55 (by assumption)) (first
            | (go_at_call 20; (with_reducible refine (d3.out _).mono ?_); rintro e w8 ⟨rfl, hb⟩; have hl := Lv.kept (by assumption) hb; clear hb)
            | (go_at_call 21; (with_reducible refine (d4.out _).mono ?_); rintro e w8 ⟨rfl, hb⟩; have hl := Lv.kept (by assumption) hb; clear hb))
          have K9 := hid hl.drop.drop.drop
          clear hl d3 d4 tt
          go_wp2_with fail
          go_roundw
          case rel => first | exact ⟨x + 1, by omega, by go_num, K9⟩ | ((repeat apply Exists.intro); exact ⟨⟨x + 1, by omega, by go_num, K9⟩, rfl⟩)
          case measure => simp [intOf]; omega
        · have d3 := hid (fun w => total_any l1 l2 l3 l4 l5 w)
          have d4 := hid (fun w => rtotal_any l1 l2 l3 l4 l5 w)
          generalize totV l1 l2 l3 l4 l5 = TT at *
          have tt : (TT == TT) = true := by simp
          go_wp2_with fail
          have hl := hl.out
          have hc := cells5 hl
          have hl := hl.drew
          have hc := cells5 hl
          go_region_held3 (fun w' => w'.cell? ⟨B1, 0, none⟩ = some (.int .i64 l1) ∧ w'.cell? ⟨B1, 1, none⟩ = some (.int .i64 l2) ∧ w'.cell? ⟨B1, 2, none⟩ = some (.int .i64 l3) ∧ w'.cell? ⟨B1, 3, none⟩ = some (.int .i64 l4) ∧ w'.cell? ⟨B1, 4, none⟩ = some (.int .i64 l5)) (first | assumption | exact cells5 (by assumption)) (first
            | (go_at_call 20; (with_reducible refine (d3.out _).mono ?_); rintro e w8 ⟨rfl, hb⟩; have hl := Lv.kept (by assumption) hb; clear hb)
            | (go_at_call 21; (with_reducible refine (d4.out _).mono ?_); rintro e w8 ⟨rfl, hb⟩; have hl := Lv.kept (by assumption) hb; clear hb))
          all_goals go_wp2_with fail
          all_goals go_ret
          all_goals exact ⟨rfl, hl.below⟩
    · subst h7
      have hs := HL3.out.set (i := 1) (v := .int .i64 jr) (by omega) (by simp; omega)
      simp only [List.set_cons_zero, List.set_cons_succ] at hs
      have HL5 := Lv.alloc (vs := [.int .i64 jm, .int .i64 jr, .int .i64 jd, .int .i64 jg, .int .i64 jp, .int .i64 jt, .int .i64 jl, .int .i64 k0, .int .i64 k1, .int .i64 k2, .int .i64 M3, .int .i64 k4, .int .i64 M5, .int .i64 M6, .int .i64 k0, .int .i64 jr, .int .i64 k2, .int .i64 M3, .int .i64 k4, .int .i64 M5, .int .i64 M6]) (T := 27) hs
      have HL6 := hid HL5.drop_to
      clear HL5 HL3 hs
      go_upto_region 17 with (go_at_call 15; (with_reducible refine (c7.out _).mono ?_); rintro e w8 ⟨rfl, rfl⟩)
      clear hL c7
      try simp only [World.size_setCell] at HL6
      generalize W4.heap.size = B9 at *
      go_loopw [76] (fun i wr => ∃ x : Nat, x ≤ 3 ∧ i = .int .i64 x ∧ Hid (Lv w wr [(B9, [.int .i64 jm, .int .i64 jr, .int .i64 jd, .int .i64 jg, .int .i64 jp, .int .i64 jt, .int .i64 jl, .int .i64 k0, .int .i64 k1, .int .i64 k2, .int .i64 M3, .int .i64 k4, .int .i64 M5, .int .i64 M6, .int .i64 k0, .int .i64 jr, .int .i64 k2, .int .i64 M3, .int .i64 k4, .int .i64 M5, .int .i64 M6], 27), (B1, [.int .i64 l1, .int .i64 l2, .int .i64 l3, .int .i64 l4, .int .i64 l5], 29)])) (fun i _ => 3 - (intOf i).toNat)
      case atStart => exact ⟨0, by omega, rfl, HL6⟩
      case round =>
        obtain ⟨x, hx, rfl, hl⟩ := hrel
        clear HL6
        obtain ⟨wo, rfl⟩ : ∃ wo : World, wo = wr := ⟨_, rfl⟩
        by_cases hlt : x < 3
        · obtain ⟨x0, x1, x2, x3, x4, x5, x6, g0, g1, g2, g3, g4, g5, g6⟩ := pick7 hl.out x hlt
          have hkb : decide ((x : Int) < 3) = true := by simp; omega
          have d1 := hid (fun w => of_any x0 x1 x2 x3 x4 x5 x6 w)
          have d2 := hid (fun w => rof_any x0 x1 x2 x3 x4 x5 x6 w)
          generalize ofV x0 x1 x2 x3 x4 x5 x6 = V at *
          obtain ⟨⟨A1, A2, A3, A4, A5⟩, A6⟩ := V
          simp only at d1 d2
          have d3 := hid (fun w => total_any A1 A2 A3 A4 A5 w)
          have d4 := hid (fun w => rtotal_any A1 A2 A3 A4 A5 w)
          generalize totV A1 A2 A3 A4 A5 = TT at *
          have tt : (TT != TT) = false := by simp
          have HL7 := hid (Lv.alloc (vs := [.int .i64 x0, .int .i64 x1, .int .i64 x2, .int .i64 x3, .int .i64 x4, .int .i64 x5, .int .i64 x6]) (T := 27) hl.out)
          go_upto_region 19 with (fail)
          clear g0 g1 g2 g3 g4 g5 g6 hl
          generalize wo.alloc (.cells #[.int .i64 x0, .int .i64 x1, .int .i64 x2, .int .i64 x3, .int .i64 x4, .int .i64 x5, .int .i64 x6] 27) = W5 at *
          generalize wo.heap.size = B10 at *
          have hL := HL7.out.facts
          simp only [liveAt, cellsAt, and_true, Nat.zero_add, Nat.reduceAdd, World.size_alloc] at hL
          go_wp2_with fail
          clear hL
          (with_reducible refine (d1.out _).mono ?_); rintro e v1 ⟨rfl, hb⟩; have HL8 := hid (Lv.alloc (vs := [.int .i64 A1, .int .i64 A2, .int .i64 A3, .int .i64 A4, .int .i64 A5]) (T := 29) (HL7.out.kept hb)); clear hb HL7 d1
          have hL := HL8.out.facts
          simp only [liveAt, cellsAt, and_true, Nat.zero_add, Nat.reduceAdd, World.size_alloc] at hL
          go_wp2_with fail
          clear hL
          (with_reducible refine (d2.out _).mono ?_); rintro e v2 ⟨rfl, hb⟩; have HL9 := hid (Lv.alloc (vs := [.int .i64 A1, .int .i64 A2, .int .i64 A3, .int .i64 A4, .int .i64 A5]) (T := 29) (HL8.out.kept hb)); clear hb HL8 d2
          go_upto_region 21 with (fail)
          have hl := HL9.out
          clear HL9
          generalize v2.alloc (.cells #[.int .i64 A1, .int .i64 A2, .int .i64 A3, .int .i64 A4, .int .i64 A5] 29) = W6 at *
          generalize v2.heap.size = B12 at *
          generalize v1.heap.size = B11 at *
          have hl := hl.drew
          have hc := cells55 hl
          go_region_held3 (fun w' => w'.cell? ⟨B11, 0, none⟩ = some (.int .i64 A1) ∧ w'.cell? ⟨B11, 1, none⟩ = some (.int .i64 A2) ∧ w'.cell? ⟨B11, 2, none⟩ = some (.int .i64 A3) ∧ w'.cell? ⟨B11, 3, none⟩ = some (.int .i64 A4) ∧ w'.cell? ⟨B11, 4, none⟩ = some (.int .i64 A5) ∧ w'.cell? ⟨B12, 0, none⟩ = some (.int .i64 A1) ∧ w'.cell? ⟨B12, 1, none⟩ = some (.int .i64 A2) ∧ w'.cell? ⟨B12, 2, none⟩ = some (.int .i64 A3) ∧ w'.cell? ⟨B12, 3, none⟩ = some (.int .i64 A4) ∧ w'.cell? ⟨B12, 4, none⟩ = some (.int .i64 A5)) (exact cells55 (by assumption)) (first
            | (go_at_call 20; (with_reducible refine (d3.out _).mono ?_); rintro e w8 ⟨rfl, hb⟩; have hl := Lv.kept (by assumption) hb; clear hb)
            | (go_at_call 21; (with_reducible refine (d4.out _).mono ?_); rintro e w8 ⟨rfl, hb⟩; have hl := Lv.kept (by assumption) hb; clear hb))
          have K9 := hid hl.drop.drop.drop
          clear hl d3 d4 tt
          go_wp2_with fail
          go_roundw
          case rel => first | exact ⟨x + 1, by omega, by go_num, K9⟩ | ((repeat apply Exists.intro); exact ⟨⟨x + 1, by omega, by go_num, K9⟩, rfl⟩)
          case measure => simp [intOf]; omega
        · have d3 := hid (fun w => total_any l1 l2 l3 l4 l5 w)
          have d4 := hid (fun w => rtotal_any l1 l2 l3 l4 l5 w)
          generalize totV l1 l2 l3 l4 l5 = TT at *
          have tt : (TT == TT) = true := by simp
          go_wp2_with fail
          have hl := hl.out
          have hc := cells5 hl
          have hl := hl.drew
          have hc := cells5 hl
          go_region_held3 (fun w' => w'.cell? ⟨B1, 0, none⟩ = some (.int .i64 l1) ∧ w'.cell? ⟨B1, 1, none⟩ = some (.int .i64 l2) ∧ w'.cell? ⟨B1, 2, none⟩ = some (.int .i64 l3) ∧ w'.cell? ⟨B1, 3, none⟩ = some (.int .i64 l4) ∧ w'.cell? ⟨B1, 4, none⟩ = some (.int .i64 l5)) (first | assumption | exact cells5 (by assumption)) (first
            | (go_at_call 20; (with_reducible refine (d3.out _).mono ?_); rintro e w8 ⟨rfl, hb⟩; have hl := Lv.kept (by assumption) hb; clear hb)
            | (go_at_call 21; (with_reducible refine (d4.out _).mono ?_); rintro e w8 ⟨rfl, hb⟩; have hl := Lv.kept (by assumption) hb; clear hb))
          all_goals go_wp2_with fail
          all_goals go_ret
          all_goals exact ⟨rfl, hl.below⟩
    · subst h7
      have hs := HL3.out.set (i := 6) (v := .int .i64 jl) (by omega) (by simp; omega)
      simp only [List.set_cons_zero, List.set_cons_succ] at hs
      have HL5 := Lv.alloc (vs := [.int .i64 jm, .int .i64 jr, .int .i64 jd, .int .i64 jg, .int .i64 jp, .int .i64 jt, .int .i64 jl, .int .i64 k0, .int .i64 k1, .int .i64 k2, .int .i64 M3, .int .i64 k4, .int .i64 M5, .int .i64 M6, .int .i64 k0, .int .i64 k1, .int .i64 k2, .int .i64 M3, .int .i64 k4, .int .i64 M5, .int .i64 jl]) (T := 27) hs
      have HL6 := hid HL5.drop_to
      clear HL5 HL3 hs
      go_upto_region 17 with (go_at_call 15; (with_reducible refine (c7.out _).mono ?_); rintro e w8 ⟨rfl, rfl⟩)
      clear hL c7
      try simp only [World.size_setCell] at HL6
      generalize W4.heap.size = B9 at *
      go_loopw [76] (fun i wr => ∃ x : Nat, x ≤ 3 ∧ i = .int .i64 x ∧ Hid (Lv w wr [(B9, [.int .i64 jm, .int .i64 jr, .int .i64 jd, .int .i64 jg, .int .i64 jp, .int .i64 jt, .int .i64 jl, .int .i64 k0, .int .i64 k1, .int .i64 k2, .int .i64 M3, .int .i64 k4, .int .i64 M5, .int .i64 M6, .int .i64 k0, .int .i64 k1, .int .i64 k2, .int .i64 M3, .int .i64 k4, .int .i64 M5, .int .i64 jl], 27), (B1, [.int .i64 l1, .int .i64 l2, .int .i64 l3, .int .i64 l4, .int .i64 l5], 29)])) (fun i _ => 3 - (intOf i).toNat)
      case atStart => exact ⟨0, by omega, rfl, HL6⟩
      case round =>
        obtain ⟨x, hx, rfl, hl⟩ := hrel
        clear HL6
        obtain ⟨wo, rfl⟩ : ∃ wo : World, wo = wr := ⟨_, rfl⟩
        by_cases hlt : x < 3
        · obtain ⟨x0, x1, x2, x3, x4, x5, x6, g0, g1, g2, g3, g4, g5, g6⟩ := pick7 hl.out x hlt
          have hkb : decide ((x : Int) < 3) = true := by simp; omega
          have d1 := hid (fun w => of_any x0 x1 x2 x3 x4 x5 x6 w)
          have d2 := hid (fun w => rof_any x0 x1 x2 x3 x4 x5 x6 w)
          generalize ofV x0 x1 x2 x3 x4 x5 x6 = V at *
          obtain ⟨⟨A1, A2, A3, A4, A5⟩, A6⟩ := V
          simp only at d1 d2
          have d3 := hid (fun w => total_any A1 A2 A3 A4 A5 w)
          have d4 := hid (fun w => rtotal_any A1 A2 A3 A4 A5 w)
          generalize totV A1 A2 A3 A4 A5 = TT at *
          have tt : (TT != TT) = false := by simp
          have HL7 := hid (Lv.alloc (vs := [.int .i64 x0, .int .i64 x1, .int .i64 x2, .int .i64 x3, .int .i64 x4, .int .i64 x5, .int .i64 x6]) (T := 27) hl.out)
          go_upto_region 19 with (fail)
          clear g0 g1 g2 g3 g4 g5 g6 hl
          generalize wo.alloc (.cells #[.int .i64 x0, .int .i64 x1, .int .i64 x2, .int .i64 x3, .int .i64 x4, .int .i64 x5, .int .i64 x6] 27) = W5 at *
          generalize wo.heap.size = B10 at *
          have hL := HL7.out.facts
          simp only [liveAt, cellsAt, and_true, Nat.zero_add, Nat.reduceAdd, World.size_alloc] at hL
          go_wp2_with fail
          clear hL
          (with_reducible refine (d1.out _).mono ?_); rintro e v1 ⟨rfl, hb⟩; have HL8 := hid (Lv.alloc (vs := [.int .i64 A1, .int .i64 A2, .int .i64 A3, .int .i64 A4, .int .i64 A5]) (T := 29) (HL7.out.kept hb)); clear hb HL7 d1
          have hL := HL8.out.facts
          simp only [liveAt, cellsAt, and_true, Nat.zero_add, Nat.reduceAdd, World.size_alloc] at hL
          go_wp2_with fail
          clear hL
          (with_reducible refine (d2.out _).mono ?_); rintro e v2 ⟨rfl, hb⟩; have HL9 := hid (Lv.alloc (vs := [.int .i64 A1, .int .i64 A2, .int .i64 A3, .int .i64 A4, .int .i64 A5]) (T := 29) (HL8.out.kept hb)); clear hb HL8 d2
          go_upto_region 21 with (fail)
          have hl := HL9.out
          clear HL9
          generalize v2.alloc (.cells #[.int .i64 A1, .int .i64 A2, .int .i64 A3, .int .i64 A4, .int .i64 A5] 29) = W6 at *
          generalize v2.heap.size = B12 at *
          generalize v1.heap.size = B11 at *
          have hl := hl.drew
          have hc := cells55 hl
          go_region_held3 (fun w' => w'.cell? ⟨B11, 0, none⟩ = some (.int .i64 A1) ∧ w'.cell? ⟨B11, 1, none⟩ = some (.int .i64 A2) ∧ w'.cell? ⟨B11, 2, none⟩ = some (.int .i64 A3) ∧ w'.cell? ⟨B11, 3, none⟩ = some (.int .i64 A4) ∧ w'.cell? ⟨B11, 4, none⟩ = some (.int .i64 A5) ∧ w'.cell? ⟨B12, 0, none⟩ = some (.int .i64 A1) ∧ w'.cell? ⟨B12, 1, none⟩ = some (.int .i64 A2) ∧ w'.cell? ⟨B12, 2, none⟩ = some (.int .i64 A3) ∧ w'.cell? ⟨B12, 3, none⟩ = some (.int .i64 A4) ∧ w'.cell? ⟨B12, 4, none⟩ = some (.int .i64 A5)) (exact cells55 (by assumption)) (first
            | (go_at_call 20; (with_reducible refine (d3.out _).mono ?_); rintro e w8 ⟨rfl, hb⟩; have hl := Lv.kept (by assumption) hb; clear hb)
            | (go_at_call 21; (with_reducible refine (d4.out _).mono ?_); rintro e w8 ⟨rfl, hb⟩; have hl := Lv.kept (by assumption) hb; clear hb))
          have K9 := hid hl.drop.drop.drop
          clear hl d3 d4 tt
          go_wp2_with fail
          go_roundw
          case rel => first | exact ⟨x + 1, by omega, by go_num, K9⟩ | ((repeat apply Exists.intro); exact ⟨⟨x + 1, by omega, by go_num, K9⟩, rfl⟩)
          case measure => simp [intOf]; omega
        · have d3 := hid (fun w => total_any l1 l2 l3 l4 l5 w)
          have d4 := hid (fun w => rtotal_any l1 l2 l3 l4 l5 w)
          generalize totV l1 l2 l3 l4 l5 = TT at *
          have tt : (TT == TT) = true := by simp
          go_wp2_with fail
          have hl := hl.out
          have hc := cells5 hl
          have hl := hl.drew
          have hc := cells5 hl
          go_region_held3 (fun w' => w'.cell? ⟨B1, 0, none⟩ = some (.int .i64 l1) ∧ w'.cell? ⟨B1, 1, none⟩ = some (.int .i64 l2) ∧ w'.cell? ⟨B1, 2, none⟩ = some (.int .i64 l3) ∧ w'.cell? ⟨B1, 3, none⟩ = some (.int .i64 l4) ∧ w'.cell? ⟨B1, 4, none⟩ = some (.int .i64 l5)) (first | assumption | exact cells5 (by assumption)) (first
            | (go_at_call 20; (with_reducible refine (d3.out _).mono ?_); rintro e w8 ⟨rfl, hb⟩; have hl := Lv.kept (by assumption) hb; clear hb)
            | (go_at_call 21; (with_reducible refine (d4.out _).mono ?_); rintro e w8 ⟨rfl, hb⟩; have hl := Lv.kept (by assumption) hb; clear hb))
          all_goals go_wp2_with fail
          all_goals go_ret
          all_goals exact ⟨rfl, hl.below⟩
    · have f0 : (M7 == 0) = false := by simpa using h70
      have f1 : (M7 == 1) = false := by simpa using h71
      have f2 : (M7 == 2) = false := by simpa using h72
      have f3 : (M7 == 3) = false := by simpa using h73
      have f4 : (M7 == 4) = false := by simpa using h74
      have hs := HL3.out
      have HL5 := Lv.alloc (vs := [.int .i64 jm, .int .i64 jr, .int .i64 jd, .int .i64 jg, .int .i64 jp, .int .i64 jt, .int .i64 jl, .int .i64 k0, .int .i64 k1, .int .i64 k2, .int .i64 M3, .int .i64 k4, .int .i64 M5, .int .i64 M6, .int .i64 k0, .int .i64 k1, .int .i64 k2, .int .i64 M3, .int .i64 k4, .int .i64 M5, .int .i64 M6]) (T := 27) hs
      have HL6 := hid HL5.drop_to
      clear HL5 HL3 hs
      go_upto_region 17 with (go_at_call 15; (with_reducible refine (c7.out _).mono ?_); rintro e w8 ⟨rfl, rfl⟩)
      clear hL c7
      try simp only [World.size_setCell] at HL6
      generalize W4.heap.size = B9 at *
      go_loopw [76] (fun i wr => ∃ x : Nat, x ≤ 3 ∧ i = .int .i64 x ∧ Hid (Lv w wr [(B9, [.int .i64 jm, .int .i64 jr, .int .i64 jd, .int .i64 jg, .int .i64 jp, .int .i64 jt, .int .i64 jl, .int .i64 k0, .int .i64 k1, .int .i64 k2, .int .i64 M3, .int .i64 k4, .int .i64 M5, .int .i64 M6, .int .i64 k0, .int .i64 k1, .int .i64 k2, .int .i64 M3, .int .i64 k4, .int .i64 M5, .int .i64 M6], 27), (B1, [.int .i64 l1, .int .i64 l2, .int .i64 l3, .int .i64 l4, .int .i64 l5], 29)])) (fun i _ => 3 - (intOf i).toNat)
      case atStart => exact ⟨0, by omega, rfl, HL6⟩
      case round =>
        obtain ⟨x, hx, rfl, hl⟩ := hrel
        clear HL6
        obtain ⟨wo, rfl⟩ : ∃ wo : World, wo = wr := ⟨_, rfl⟩
        by_cases hlt : x < 3
        · obtain ⟨x0, x1, x2, x3, x4, x5, x6, g0, g1, g2, g3, g4, g5, g6⟩ := pick7 hl.out x hlt
          have hkb : decide ((x : Int) < 3) = true := by simp; omega
          have d1 := hid (fun w => of_any x0 x1 x2 x3 x4 x5 x6 w)
          have d2 := hid (fun w => rof_any x0 x1 x2 x3 x4 x5 x6 w)
          generalize ofV x0 x1 x2 x3 x4 x5 x6 = V at *
          obtain ⟨⟨A1, A2, A3, A4, A5⟩, A6⟩ := V
          simp only at d1 d2
          have d3 := hid (fun w => total_any A1 A2 A3 A4 A5 w)
          have d4 := hid (fun w => rtotal_any A1 A2 A3 A4 A5 w)
          generalize totV A1 A2 A3 A4 A5 = TT at *
          have tt : (TT != TT) = false := by simp
          have HL7 := hid (Lv.alloc (vs := [.int .i64 x0, .int .i64 x1, .int .i64 x2, .int .i64 x3, .int .i64 x4, .int .i64 x5, .int .i64 x6]) (T := 27) hl.out)
          go_upto_region 19 with (fail)
          clear g0 g1 g2 g3 g4 g5 g6 hl
          generalize wo.alloc (.cells #[.int .i64 x0, .int .i64 x1, .int .i64 x2, .int .i64 x3, .int .i64 x4, .int .i64 x5, .int .i64 x6] 27) = W5 at *
          generalize wo.heap.size = B10 at *
          have hL := HL7.out.facts
          simp only [liveAt, cellsAt, and_true, Nat.zero_add, Nat.reduceAdd, World.size_alloc] at hL
          go_wp2_with fail
          clear hL
          (with_reducible refine (d1.out _).mono ?_); rintro e v1 ⟨rfl, hb⟩; have HL8 := hid (Lv.alloc (vs := [.int .i64 A1, .int .i64 A2, .int .i64 A3, .int .i64 A4, .int .i64 A5]) (T := 29) (HL7.out.kept hb)); clear hb HL7 d1
          have hL := HL8.out.facts
          simp only [liveAt, cellsAt, and_true, Nat.zero_add, Nat.reduceAdd, World.size_alloc] at hL
          go_wp2_with fail
          clear hL
          (with_reducible refine (d2.out _).mono ?_); rintro e v2 ⟨rfl, hb⟩; have HL9 := hid (Lv.alloc (vs := [.int .i64 A1, .int .i64 A2, .int .i64 A3, .int .i64 A4, .int .i64 A5]) (T := 29) (HL8.out.kept hb)); clear hb HL8 d2
          go_upto_region 21 with (fail)
          have hl := HL9.out
          clear HL9
          generalize v2.alloc (.cells #[.int .i64 A1, .int .i64 A2, .int .i64 A3, .int .i64 A4, .int .i64 A5] 29) = W6 at *
          generalize v2.heap.size = B12 at *
          generalize v1.heap.size = B11 at *
          have hl := hl.drew
          have hc := cells55 hl
          go_region_held3 (fun w' => w'.cell? ⟨B11, 0, none⟩ = some (.int .i64 A1) ∧ w'.cell? ⟨B11, 1, none⟩ = some (.int .i64 A2) ∧ w'.cell? ⟨B11, 2, none⟩ = some (.int .i64 A3) ∧ w'.cell? ⟨B11, 3, none⟩ = some (.int .i64 A4) ∧ w'.cell? ⟨B11, 4, none⟩ = some (.int .i64 A5) ∧ w'.cell? ⟨B12, 0, none⟩ = some (.int .i64 A1) ∧ w'.cell? ⟨B12, 1, none⟩ = some (.int .i64 A2) ∧ w'.cell? ⟨B12, 2, none⟩ = some (.int .i64 A3) ∧ w'.cell? ⟨B12, 3, none⟩ = some (.int .i64 A4) ∧ w'.cell? ⟨B12, 4, none⟩ = some (.int .i64 A5)) (exact cells55 (by assumption)) (first
            | (go_at_call 20; (with_reducible refine (d3.out _).mono ?_); rintro e w8 ⟨rfl, hb⟩; have hl := Lv.kept (by assumption) hb; clear hb)
            | (go_at_call 21; (with_reducible refine (d4.out _).mono ?_); rintro e w8 ⟨rfl, hb⟩; have hl := Lv.kept (by assumption) hb; clear hb))
          have K9 := hid hl.drop.drop.drop
          clear hl d3 d4 tt
          go_wp2_with fail
          go_roundw
          case rel => first | exact ⟨x + 1, by omega, by go_num, K9⟩ | ((repeat apply Exists.intro); exact ⟨⟨x + 1, by omega, by go_num, K9⟩, rfl⟩)
          case measure => simp [intOf]; omega
        · have d3 := hid (fun w => total_any l1 l2 l3 l4 l5 w)
          have d4 := hid (fun w => rtotal_any l1 l2 l3 l4 l5 w)
          generalize totV l1 l2 l3 l4 l5 = TT at *
          have tt : (TT == TT) = true := by simp
          go_wp2_with fail
          have hl := hl.out
          have hc := cells5 hl
          have hl := hl.drew
          have hc := cells5 hl
          go_region_held3 (fun w' => w'.cell? ⟨B1, 0, none⟩ = some (.int .i64 l1) ∧ w'.cell? ⟨B1, 1, none⟩ = some (.int .i64 l2) ∧ w'.cell? ⟨B1, 2, none⟩ = some (.int .i64 l3) ∧ w'.cell? ⟨B1, 3, none⟩ = some (.int .i64 l4) ∧ w'.cell? ⟨B1, 4, none⟩ = some (.int .i64 l5)) (first | assumption | exact cells5 (by assumption)) (first
            | (go_at_call 20; (with_reducible refine (d3.out _).mono ?_); rintro e w8 ⟨rfl, hb⟩; have hl := Lv.kept (by assumption) hb; clear hb)
            | (go_at_call 21; (with_reducible refine (d4.out _).mono ?_); rintro e w8 ⟨rfl, hb⟩; have hl := Lv.kept (by assumption) hb; clear hb))
          all_goals go_wp2_with fail
          all_goals go_ret
          all_goals exact ⟨rfl, hl.below⟩
end Go.Proofs.Ytnfkcfogmficfaa
