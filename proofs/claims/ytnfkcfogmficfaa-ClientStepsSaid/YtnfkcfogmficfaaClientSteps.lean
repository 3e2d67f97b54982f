/- ClientSteps: the walk. -/
import Derived.Test.YtnfkcfogmficfaaClientMade
import Derived.Test.YtnfkcfogmficfaaLive
import Derived.Deep.RegionHeld3
namespace Go.Proofs.Ytnfkcfogmficfaa
open Go.ChangeShapes Go.WideShapes Go.ChangeAt Go.RowKit
set_option linter.unusedVariables false
set_option linter.unusedSimpArgs false

theorem blk_cell {w : World} {b : Nat} {vs : List Value} {T : TypeId} (h : w.heap[b]? = some (.cells vs.toArray T (0, 0))) (i : Nat) {v : Value} (hv : vs[i]? = some v) : w.cell? ⟨b, i, none⟩ = some v := (cell_of_row w b i _ T (0, 0) h).trans (by simpa using hv)
theorem start5 {w W : World} {B2 : Nat} {p g t s : Int} {d : Bool} {L : List (Nat × List Value × TypeId)} (h : Lv W w ((B2, [.int .i64 p, .int .i64 g, .int .i64 t, .int .i64 s, .bool d], 82) :: L)) : w.drew.cell? ⟨B2, 0, none⟩ = some (.int .i64 p) ∧ w.drew.cell? ⟨B2, 1, none⟩ = some (.int .i64 g) ∧ w.drew.cell? ⟨B2, 2, none⟩ = some (.int .i64 t) ∧ w.drew.cell? ⟨B2, 3, none⟩ = some (.int .i64 s) ∧ w.drew.cell? ⟨B2, 4, none⟩ = some (.bool d) ∧ Lv W w.drew ((B2, [.int .i64 p, .int .i64 g, .int .i64 t, .int .i64 s, .bool d], 82) :: L) := by
  have hb : w.drew.heap[B2]? = some (.cells [.int .i64 p, .int .i64 g, .int .i64 t, .int .i64 s, .bool d].toArray 82 (0, 0)) := h.live.1
  exact ⟨blk_cell hb 0 rfl, blk_cell hb 1 rfl, blk_cell hb 2 rfl, blk_cell hb 3 rfl, blk_cell hb 4 rfl, h.drew⟩
theorem keep5 {P : Program} {f : FuncId} {args : Array Value} {w W : World} {v : Value} {B2 : Nat} {p g t s : Int} {d : Bool} {L : List (Nat × List Value × TypeId)}
    (hc : Calls P f args w fun e w' => e = .returned v ∧ Below w.heap.size w w') (h : w.cell? ⟨B2, 0, none⟩ = some (.int .i64 p) ∧ w.cell? ⟨B2, 1, none⟩ = some (.int .i64 g) ∧ w.cell? ⟨B2, 2, none⟩ = some (.int .i64 t) ∧ w.cell? ⟨B2, 3, none⟩ = some (.int .i64 s) ∧ w.cell? ⟨B2, 4, none⟩ = some (.bool d) ∧ Lv W w ((B2, [.int .i64 p, .int .i64 g, .int .i64 t, .int .i64 s, .bool d], 82) :: L)) :
    Calls P f args w fun e w' => e = .returned v ∧ (w'.cell? ⟨B2, 0, none⟩ = some (.int .i64 p) ∧ w'.cell? ⟨B2, 1, none⟩ = some (.int .i64 g) ∧ w'.cell? ⟨B2, 2, none⟩ = some (.int .i64 t) ∧ w'.cell? ⟨B2, 3, none⟩ = some (.int .i64 s) ∧ w'.cell? ⟨B2, 4, none⟩ = some (.bool d) ∧ Lv W w' ((B2, [.int .i64 p, .int .i64 g, .int .i64 t, .int .i64 s, .bool d], 82) :: L)) :=
  hc.mono fun e w' ⟨h1, h2⟩ => by
    have hl := h.2.2.2.2.2.kept h2
    have hb := hl.live.1
    exact ⟨h1, blk_cell hb 0 rfl, blk_cell hb 1 rfl, blk_cell hb 2 rfl, blk_cell hb 3 rfl, blk_cell hb 4 rfl, hl⟩
theorem below_alloc {P : Program} {f : FuncId} {args : Array Value} {w : World} {v : Value} {x : Obj} (hc : Calls P f args w fun e w' => e = .returned v ∧ w' = w.alloc x) : Calls P f args w fun e w' => e = .returned v ∧ Below w.heap.size w w' :=
  hc.mono fun e w' ⟨h1, h2⟩ => ⟨h1, by subst h2; go_grown⟩
theorem lit10 {W w : World} {b : Nat} {T : TypeId} {L : List (Nat × List Value × TypeId)} {cp cg ct cs rp rg rt rs : Int} {cd rd : Bool} (h : Hid (Lv W w ((b, [.int .i64 cp, .int .i64 cg, .int .i64 ct, .int .i64 cs, .bool cd, .int .i64 rp, .int .i64 rg, .int .i64 rt, .int .i64 rs, .bool rd], T) :: L))) (k : Nat) (hk : k < 2) :
    ∃ (p g t s : Int) (d : Bool), w.cell? ⟨b, k * 5, none⟩ = some (.int .i64 p) ∧ w.cell? ⟨b, k * 5 + 1, none⟩ = some (.int .i64 g) ∧ w.cell? ⟨b, k * 5 + 2, none⟩ = some (.int .i64 t) ∧ w.cell? ⟨b, k * 5 + 3, none⟩ = some (.int .i64 s) ∧ w.cell? ⟨b, k * 5 + 4, none⟩ = some (.bool d) := by
  have hb := h.out.live.1
  match k, hk with
  | 0, _ => exact ⟨cp, cg, ct, cs, cd, blk_cell hb 0 rfl, blk_cell hb 1 rfl, blk_cell hb 2 rfl, blk_cell hb 3 rfl, blk_cell hb 4 rfl⟩
  | 1, _ => exact ⟨rp, rg, rt, rs, rd, blk_cell hb 5 rfl, blk_cell hb 6 rfl, blk_cell hb 7 rfl, blk_cell hb 8 rfl, blk_cell hb 9 rfl⟩
theorem litb {W w : World} {b : Nat} {T : TypeId} {x : Nat × List Value × TypeId} {L : List (Nat × List Value × TypeId)} {a0 a1 : Int} (h : Hid (Lv W w (x :: (b, [.int .i64 a0, .int .i64 a1], T) :: L))) (h0 : -9223372036854775808 ≤ a0 ∧ a0 ≤ 9223372036854775807) (h1 : -9223372036854775808 ≤ a1 ∧ a1 ≤ 9223372036854775807) (k : Nat) (hk : k < 2) :
    ∃ x : Int, w.cell? ⟨b, k, none⟩ = some (.int .i64 x) ∧ -9223372036854775808 ≤ x ∧ x ≤ 9223372036854775807 := by
  have hb := h.out.live.2.1
  match k, hk with
  | 0, _ => exact ⟨a0, blk_cell hb 0 rfl, h0⟩
  | 1, _ => exact ⟨a1, blk_cell hb 1 rfl, h1⟩
theorem Lv.swap {W w : World} {x y : Nat × List Value × TypeId} {L : List (Nat × List Value × TypeId)} (h : Lv W w (x :: y :: L)) : Lv W w (y :: x :: L) := ⟨h.below, h.live.2.1, h.live.1, h.live.2.2⟩

set_option maxRecDepth 100000 in
set_option maxHeartbeats 16000000 in
theorem clientSteps_walk (a : Option Addr) (len cap : Nat) (l : List Int) (rp rg rt rs : Int) (rd : Bool) (n pat : Int) (w : World) (hs : Sl .i64 w a len cap l) (hn : -9223372036854775808 ≤ n ∧ n ≤ 9223372036854775807) :
    Calls Try.prog 11 #[.slice a len cap, .agg #[.int .i64 rp, .int .i64 rg, .int .i64 rt, .int .i64 rs, .bool rd], .int .i64 n, .int .i64 pat] w fun e w' => e = .returned (.bool true) ∧ Below w.heap.size w w' := by
  have HS := hid hs
  have HN := hid hn
  clear hs hn
  go_enter Try.func11, Try.ntmps11
  go_wp2_with (first
    | (go_at_call 45; (with_reducible refine (sane36_any _).mono ?_); rintro e w1 ⟨rfl, hb⟩; have HL := hid (Lv.kept (Lv.alloc (vs := [.int .i64 rp, .int .i64 rg, .int .i64 rt, .int .i64 rs, .bool rd]) (T := 82) (Lv.start w)) hb); clear hb)
    | (go_at_call 46; (with_reducible refine (made36_any a len cap l _ (HS.out.below HL.out.below)).mono ?_); rintro e w2 ⟨⟨cp, cg, ct, cs, cd, rfl⟩, hb⟩; have HL2 := hid (HL.out.kept hb); clear hb; have hL := HL2.out.facts; simp only [liveAt, cellsAt, and_true, Nat.zero_add, Nat.reduceAdd, World.size_alloc] at hL; have hz := HL2.out.lt; have hz2 : w.heap.size < w2.heap.size + 1 := by omega))
  have HL3 := hid (Lv.alloc (vs := [.int .i64 cp, .int .i64 cg, .int .i64 ct, .int .i64 cs, .bool cd, .int .i64 rp, .int .i64 rg, .int .i64 rt, .int .i64 rs, .bool rd]) (T := 82) (HL2.out.drop.kept (w' := w2.alloc (.cells #[.int .i64 cp, .int .i64 cg, .int .i64 ct, .int .i64 cs, .bool cd] 82)) (by go_grown)))
  have HL4 := HL3.out
  simp only [World.size_alloc] at HL4
  have HL5 := hid HL4
  clear HL HL2 HL3 HL4 hL hz hz2 HS
  go_loopw [36] (fun i wr => ∃ k : Nat, k ≤ 2 ∧ i = .int .i64 k ∧ Hid (Lv w wr [(w2.heap.size + 1, [.int .i64 cp, .int .i64 cg, .int .i64 ct, .int .i64 cs, .bool cd, .int .i64 rp, .int .i64 rg, .int .i64 rt, .int .i64 rs, .bool rd], 82)])) (fun i _ => 2 - (intOf i).toNat)
  case atStart => exact ⟨0, by omega, rfl, HL5⟩
  case round =>
    obtain ⟨k, hk, rfl, hl⟩ := hrel
    clear HL5
    obtain ⟨wo, rfl⟩ : ∃ wo : World, wo = wr := ⟨_, rfl⟩
    generalize w2.heap.size + 1 = B1 at *
    by_cases hlt : k < 2
    · obtain ⟨p, g, t, s, d, f0, f1, f2, f3, f4⟩ := lit10 hl k hlt
      have hz := hl.out.lt
      have hkb : decide ((k : Int) < 2) = true := by simp; omega
      have HX := hid (Lv.alloc (vs := [.int .i64 p, .int .i64 g, .int .i64 t, .int .i64 s, .bool d]) (T := 82) hl.out)
      have hS := start5 HX.out
      have cv := hid (fun w => below_alloc (cvalid_any p g t s d w))
      have rv := hid (fun w => below_alloc (rvalid_any p g t s d w))
      have cst := hid (fun w => cstate_any p g t s d w)
      have rst := hid (fun w => rstate_any p g t s d w)
      have cdi := hid (fun w => cdie_any p g t s d w)
      have rdi := hid (fun w => rdie_any p g t s d w)
      generalize hV : cvalid p g t s = V at *
      generalize hSt : cstate p g t s d = St at *
      have HV := hid hV
      have HSt := hid hSt
      clear hl HX hV hSt
      go_wp2_with fail
      clear f0 f1 f2 f3 f4 hz
      generalize (wo.alloc (.cells #[.int .i64 p, .int .i64 g, .int .i64 t, .int .i64 s, .bool d] 82)) = W5 at *
      generalize wo.heap.size = B2 at *
      have nV : (V != V) = false := by simp
      have nS : (St != St) = false := by simp
      go_region_held3 (fun w' => w'.cell? ⟨B2, 0, none⟩ = some (.int .i64 p) ∧ w'.cell? ⟨B2, 1, none⟩ = some (.int .i64 g) ∧ w'.cell? ⟨B2, 2, none⟩ = some (.int .i64 t) ∧ w'.cell? ⟨B2, 3, none⟩ = some (.int .i64 s) ∧ w'.cell? ⟨B2, 4, none⟩ = some (.bool d) ∧ Lv w w' ([(B2, [.int .i64 p, .int .i64 g, .int .i64 t, .int .i64 s, .bool d], 82), (B1, [.int .i64 cp, .int .i64 cg, .int .i64 ct, .int .i64 cs, .bool cd, .int .i64 rp, .int .i64 rg, .int .i64 rt, .int .i64 rs, .bool rd], 82)])) (assumption) (first
        | (go_at_call 47; refine (keep5 (cv.out _) (by assumption)).mono ?_; rintro e w' ⟨rfl, hS⟩)
        | (go_at_call 48; refine (keep5 (rv.out _) (by assumption)).mono ?_; rintro e w' ⟨rfl, hS⟩)
        | (go_at_call 49; refine (keep5 (cst.out _) (by assumption)).mono ?_; rintro e w' ⟨rfl, hS⟩)
        | (go_at_call 50; refine (keep5 (rst.out _) (by assumption)).mono ?_; rintro e w' ⟨rfl, hS⟩)
        | (go_at_call 51; refine (keep5 (cdi.out _) (by assumption)).mono ?_; rintro e w' ⟨rfl, hS⟩)
        | (go_at_call 52; refine (keep5 (rdi.out _) (by assumption)).mono ?_; rintro e w' ⟨rfl, hS⟩))
      obtain ⟨_, _, _, _, _, hl⟩ := hS
      have HL6 := hid hl
      clear hl cv rv cst rst cdi rdi nV nS HSt
      have cm := hid (fun w => mod_any n 200 (by omega) (by omega) w)
      have m1 := Int.emod_nonneg n (show (200 : Int) ≠ 0 by omega)
      have m2 := Int.emod_lt_of_pos n (show (0 : Int) < 200 by omega)
      generalize n % 200 = m at *
      go_wp2_with (go_at_call 15; (with_reducible refine (cm.out _).mono ?_); rintro e w9 ⟨rfl, rfl⟩)
      have HL7 := hid (Lv.swap (Lv.alloc (vs := [.int .i64 n, .int .i64 m]) (T := 3) HL6.out))
      clear HL6 cm
      obtain ⟨wm, rfl⟩ : ∃ wm : World, wm = w' := ⟨_, rfl⟩
      generalize wm.heap.size = B3 at *
      go_loopw [64] (fun i wq => ∃ jj : Nat, jj ≤ 2 ∧ i = .int .i64 jj ∧ Hid (Lv w wq [(B2, [.int .i64 p, .int .i64 g, .int .i64 t, .int .i64 s, .bool d], 82), (B3, [.int .i64 n, .int .i64 m], 3), (B1, [.int .i64 cp, .int .i64 cg, .int .i64 ct, .int .i64 cs, .bool cd, .int .i64 rp, .int .i64 rg, .int .i64 rt, .int .i64 rs, .bool rd], 82)])) (fun i _ => 2 - (intOf i).toNat)
      case atStart => exact ⟨0, by omega, rfl, HL7⟩
      case round =>
        obtain ⟨jj, hjj, rfl, hl⟩ := hrel
        clear HL7
        by_cases hlt2 : jj < 2
        · obtain ⟨x, g0, x1, x2⟩ := litb hl HN.out ⟨by omega, by omega⟩ jj hlt2
          have hjb : decide ((jj : Int) < 2) = true := by simp; omega
          have hL := hl.out.facts
          simp only [liveAt, cellsAt, and_true, Nat.zero_add, Nat.reduceAdd, World.size_alloc] at hL
          have c1 := hid (fun w => cwrote_any p g t s x d w x1 x2)
          have c2 := hid (fun w => rwrote_any p g t s x d w x1 x2)
          have c3 := hid (fun w => ctick_any p g t s x d w x1 x2)
          have c4 := hid (fun w => rtick_any p g t s x d w x1 x2)
          generalize (cwrote p g t s d x).1.1 = A1 at *
          generalize (cwrote p g t s d x).1.2.1 = A2 at *
          generalize (cwrote p g t s d x).1.2.2.1 = A3 at *
          generalize (cwrote p g t s d x).1.2.2.2.1 = A4 at *
          generalize (cwrote p g t s d x).1.2.2.2.2 = A5 at *
          generalize (cwrote p g t s d x).2 = A6 at *
          generalize (ctick p g t s d x).1.1 = D1 at *
          generalize (ctick p g t s d x).1.2.1 = D2 at *
          generalize (ctick p g t s d x).1.2.2.1 = D3 at *
          generalize (ctick p g t s d x).1.2.2.2.1 = D4 at *
          generalize (ctick p g t s d x).1.2.2.2.2 = D5 at *
          generalize (ctick p g t s d x).2.1 = D6 at *
          generalize (ctick p g t s d x).2.2 = D7 at *
          go_wp2_with fail
          (with_reducible refine (c1.out _).mono ?_); rintro e v1 ⟨rfl, hb⟩; have K1 := hid (Lv.alloc (vs := [.int .i64 A1, .int .i64 A2, .int .i64 A3, .int .i64 A4, .bool A5]) (T := 82) (hl.out.kept hb)); clear hb hL hl
          have hL := K1.out.facts
          simp only [liveAt, cellsAt, and_true, Nat.zero_add, Nat.reduceAdd, World.size_alloc] at hL
          have z1 := K1.out.lt
          simp only [World.size_alloc] at z1
          go_wp2_with fail
          clear hL
          (with_reducible refine (c2.out _).mono ?_); rintro e v2 ⟨rfl, hb⟩; have K2 := hid (Lv.alloc (vs := [.int .i64 A1, .int .i64 A2, .int .i64 A3, .int .i64 A4, .bool A5]) (T := 82) (K1.out.kept hb)); clear hb K1
          have hL := K2.out.facts
          simp only [liveAt, cellsAt, and_true, Nat.zero_add, Nat.reduceAdd, World.size_alloc] at hL
          go_wp2_with fail
          clear hL
          (with_reducible refine (c3.out _).mono ?_); rintro e v3 ⟨rfl, hb⟩; have K3 := hid (Lv.alloc (vs := [.int .i64 D1, .int .i64 D2, .int .i64 D3, .int .i64 D4, .bool D5]) (T := 82) (K2.out.kept hb)); clear hb K2
          have hL := K3.out.facts
          simp only [liveAt, cellsAt, and_true, Nat.zero_add, Nat.reduceAdd, World.size_alloc] at hL
          go_wp2_with fail
          clear hL
          (with_reducible refine (c4.out _).mono ?_); rintro e v4 ⟨rfl, hb⟩; have K4 := hid (Lv.alloc (vs := [.int .i64 D1, .int .i64 D2, .int .i64 D3, .int .i64 D4, .bool D5]) (T := 82) (K3.out.kept hb)); clear hb K3
          have hL := K4.out.facts
          simp only [liveAt, cellsAt, and_true, Nat.zero_add, Nat.reduceAdd, World.size_alloc] at hL
          go_wp2_with fail
          have K5 := hid K4.out.drop.drop.drop.drop
          clear hL K4 c1 c2 c3 c4
          go_roundw
          case rel => first | exact ⟨jj + 1, by omega, by go_num, K5⟩ | ((repeat apply Exists.intro); exact ⟨⟨jj + 1, by omega, by go_num, K5⟩, rfl⟩)
          case measure => simp [intOf]; omega
        · have K6 := hid hl.out.drop.drop
          clear hl
          go_wp2_with fail
          go_roundw
          case rel => first | exact ⟨k + 1, by omega, by go_num, K6⟩ | ((repeat apply Exists.intro); exact ⟨⟨k + 1, by omega, by go_num, K6⟩, rfl⟩)
          case measure => simp [intOf]; omega
    · have c5 := hid (fun w => cnew_any pat w)
      have c6 := hid (fun w => rnew_any pat w)
      generalize (cnew pat).1 = P1 at *
      generalize (cnew pat).2 = P2 at *
      have nP : (P2 == P2) = true := by simp
      go_wp2_with fail
      (with_reducible refine (c5.out _).mono ?_); rintro e v1 ⟨rfl, hb⟩; have K1 := hid (Lv.alloc (vs := [.int .i64 P1, .int .i64 0, .int .i64 0, .int .i64 0, .bool false]) (T := 82) (hl.out.kept hb)); clear hb hl
      have hL := K1.out.facts
      simp only [liveAt, cellsAt, and_true, Nat.zero_add, Nat.reduceAdd, World.size_alloc] at hL
      go_wp2_with fail
      clear hL
      (with_reducible refine (c6.out _).mono ?_); rintro e v2 ⟨rfl, hb⟩; have K2 := hid (Lv.alloc (vs := [.int .i64 P1, .int .i64 0, .int .i64 0, .int .i64 0, .bool false]) (T := 82) (K1.out.kept hb)); clear hb K1
      have hL := K2.out.facts
      simp only [liveAt, cellsAt, and_true, Nat.zero_add, Nat.reduceAdd, World.size_alloc] at hL
      go_wp2_with fail
      go_ret
      exact ⟨rfl, K2.out.below⟩
end Go.Proofs.Ytnfkcfogmficfaa
