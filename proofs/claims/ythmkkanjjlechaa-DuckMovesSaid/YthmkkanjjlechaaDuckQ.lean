/- DuckQuanta: the walk. -/
import Derived.Test.YthmkkanjjlechaaDuckSane
import Derived.Deep.DeepCutAuto
namespace Go.Proofs.Ythmkkanjjlechaa
open Go.ChangeShapes Go.WideShapes Go.ChangeAt Go.RowKit
set_option linter.unusedVariables false
set_option linter.unusedSimpArgs false

theorem Lv.rot3 {W w : World} {x y z : Nat × List Value × TypeId} {L : List (Nat × List Value × TypeId)} (h : Lv W w (x :: y :: z :: L)) : Lv W w (z :: x :: y :: L) := ⟨h.below, h.live.2.2.1, h.live.1, h.live.2.1, h.live.2.2.2⟩
theorem Lv.tor3 {W w : World} {x y z : Nat × List Value × TypeId} {L : List (Nat × List Value × TypeId)} (h : Lv W w (z :: x :: y :: L)) : Lv W w (x :: y :: z :: L) := ⟨h.below, h.live.2.1, h.live.2.2.1, h.live.1, h.live.2.2.2⟩
theorem cells10 {W w : World} {b1 b2 b3 b4 : Nat} {a1 r1 h1 g1 q1 a2 r2 h2 g2 q2 : Int} {L : List (Nat × List Value × TypeId)}
    (hl : Lv W w ((b1, [.int .i64 a1, .int .i64 r1, .int .i64 h1], 61) :: (b2, [.int .i64 g1, .int .i64 q1], 59) :: (b3, [.int .i64 a2, .int .i64 r2, .int .i64 h2], 61) :: (b4, [.int .i64 g2, .int .i64 q2], 59) :: L)) :
    w.cell? ⟨b1, 0, none⟩ = some (.int .i64 a1) ∧ w.cell? ⟨b1, 1, none⟩ = some (.int .i64 r1) ∧ w.cell? ⟨b1, 2, none⟩ = some (.int .i64 h1) ∧ w.cell? ⟨b2, 0, none⟩ = some (.int .i64 g1) ∧ w.cell? ⟨b2, 1, none⟩ = some (.int .i64 q1) ∧
    w.cell? ⟨b3, 0, none⟩ = some (.int .i64 a2) ∧ w.cell? ⟨b3, 1, none⟩ = some (.int .i64 r2) ∧ w.cell? ⟨b3, 2, none⟩ = some (.int .i64 h2) ∧ w.cell? ⟨b4, 0, none⟩ = some (.int .i64 g2) ∧ w.cell? ⟨b4, 1, none⟩ = some (.int .i64 q2) := by
  have hL := hl.facts
  simp only [liveAt, cellsAt, Nat.zero_add, Nat.reduceAdd] at hL
  obtain ⟨⟨x1, _, x2, _, x3, _⟩, ⟨y1, _, y2, _⟩, ⟨z1, _, z2, _, z3, _⟩, ⟨u1, _, u2, _⟩, _⟩ := hL
  exact ⟨x1, x2, x3, y1, y2, z1, z2, z3, u1, u2⟩
set_option maxRecDepth 100000 in
set_option maxHeartbeats 8000000 in
theorem duckQuanta_walk (a : Option Addr) (len cap : Nat) (l : List Int) (g q at_ r h x : Int) (w : World) (hs : Sl .i64 w a len cap l) (hx : -9223372036854775808 ≤ x ∧ x ≤ 9223372036854775807) :
    Calls Try.prog 11 #[.slice a len cap, .agg #[.int .i64 g, .int .i64 q], .agg #[.int .i64 at_, .int .i64 r, .int .i64 h], .int .i64 x] w fun e w' => e = .returned (.bool true) ∧ Below w.heap.size w w' := by
  have HS := hid hs
  clear hs
  have hl0 := Lv.alloc (vs := [.int .i64 at_, .int .i64 r, .int .i64 h]) (T := 61) (Lv.alloc (vs := [.int .i64 g, .int .i64 q]) (T := 59) (Lv.start w))
  simp only [World.size_alloc] at hl0
  have HL0 := hid hl0
  clear hl0
  obtain ⟨hx1, hx2⟩ := hx
  have cm := hid (fun w => mod_any x 262145 (by omega) (by omega) w)
  go_enter Try.func11, Try.ntmps11
  go_wp2_with fail
  (with_reducible refine (sane32_any _).mono ?_); rintro e w1 ⟨rfl, hb⟩; have HL1 := hid (HL0.out.kept hb); clear hb HL0
  go_wp2_with fail
  (with_reducible refine (made32_any a len cap l _ (HS.out.below HL1.out.below)).mono ?_); rintro e w2 ⟨⟨g2, q2, a2, r2, h2, rfl, hv, hr9, hh5⟩, hb⟩; have hz : w.heap.size + 1 < w2.heap.size := (by have h1 := HL1.out.lt; have h2 := hb.size; omega); have HL2 := hid (Lv.alloc (vs := [.int .i64 a2, .int .i64 r2, .int .i64 h2]) (T := 61) (Lv.alloc (vs := [.int .i64 g2, .int .i64 q2]) (T := 59) (HL1.out.kept hb))); clear hb HL1 HS hv hr9 hh5
  have hL := HL2.out.facts
  simp only [liveAt, cellsAt, and_true, Nat.zero_add, Nat.reduceAdd, World.size_alloc] at hL
  go_upto_region 4 with (fail)
  have HL3 := HL2.out
  simp only [World.size_alloc] at HL3
  generalize (w2.alloc (.cells #[.int .i64 g2, .int .i64 q2] 59)).alloc (.cells #[.int .i64 a2, .int .i64 r2, .int .i64 h2] 61) = W3 at *
  obtain ⟨A1, hA1⟩ : ∃ A, (if at_ < 50 then (50 : Int) else at_) = A := ⟨_, rfl⟩
  obtain ⟨R1, hR1⟩ : ∃ A, (if r < 50 then (50 : Int) else r) = A := ⟨_, rfl⟩
  obtain ⟨A2, hA2⟩ : ∃ A, (if a2 < 50 then (50 : Int) else a2) = A := ⟨_, rfl⟩
  obtain ⟨R2, hR2⟩ : ∃ A, (if r2 < 50 then (50 : Int) else r2) = A := ⟨_, rfl⟩
  have n1 : w.heap.size + 1 ≠ w2.heap.size + 1 := by omega
  have n2 : w.heap.size ≠ w2.heap.size := by omega
  have HL4 := hid (((((HL3.set (i := 0) (v := .int .i64 A2) (by omega) (by simp; omega)).set (i := 1) (v := .int .i64 R2) (by omega) (by simp; omega)).rot3.set (i := 0) (v := .int .i64 A1) (by omega) (by simp; omega)).set (i := 1) (v := .int .i64 R1) (by omega) (by simp; omega)).tor3)
  clear HL3 HL2
  go_wp2_with fail
  clear hL hA1 hA2 hR1 hR2
  have hl := HL4.out
  simp only [List.set_cons_zero, List.set_cons_succ] at hl
  generalize World.setCell _ _ _ = W6 at *
  have hl := hl.drew
  generalize w2.heap.size + 1 = B3 at *
  generalize w2.heap.size = B4 at *
  generalize w.heap.size + 1 = B1 at *
  clear HL4 hz n1 n2
  have hc := cells10 hl
  have k1 := hid (fun w => dquanta_any g2 q2 A2 R2 h2 (x % 262145) w)
  have k2 := hid (fun w => rdquanta_any g2 q2 A2 R2 h2 (x % 262145) w)
  have k3 := hid (fun w => dquanta_any g q A1 R1 h x w)
  have k4 := hid (fun w => rdquanta_any g q A1 R1 h x w)
  have k5 := hid (fun w => dquanta_any g2 q2 A2 R2 h2 x w)
  have k6 := hid (fun w => rdquanta_any g2 q2 A2 R2 h2 x w)
  generalize quaV g2 q2 A2 R2 h2 (x % 262145) = V1 at *
  generalize quaV g q A1 R1 h x = V2 at *
  generalize quaV g2 q2 A2 R2 h2 x = V3 at *
  generalize x % 262145 = m at *
  have v1 : (V1 == V1) = true := by simp
  have v2 : (V2 == V2) = true := by simp
  have v3 : (V3 == V3) = true := by simp
  go_region_held3 (fun w' => w'.cell? ⟨B3, 0, none⟩ = some (.int .i64 A2) ∧ w'.cell? ⟨B3, 1, none⟩ = some (.int .i64 R2) ∧ w'.cell? ⟨B3, 2, none⟩ = some (.int .i64 h2) ∧ w'.cell? ⟨B4, 0, none⟩ = some (.int .i64 g2) ∧ w'.cell? ⟨B4, 1, none⟩ = some (.int .i64 q2) ∧ w'.cell? ⟨B1, 0, none⟩ = some (.int .i64 A1) ∧ w'.cell? ⟨B1, 1, none⟩ = some (.int .i64 R1) ∧ w'.cell? ⟨B1, 2, none⟩ = some (.int .i64 h) ∧ w'.cell? ⟨w.heap.size, 0, none⟩ = some (.int .i64 g) ∧ w'.cell? ⟨w.heap.size, 1, none⟩ = some (.int .i64 q)) (exact cells10 (by assumption)) (first
    | (go_at_call 33; (with_reducible refine (cm.out _).mono ?_); rintro e w8 ⟨rfl, rfl⟩)
    | (go_at_call 36; (with_reducible refine (k1.out _).mono ?_); rintro e w8 ⟨rfl, hb⟩; have hl := Lv.kept (by assumption) hb; clear hb)
    | (go_at_call 37; (with_reducible refine (k2.out _).mono ?_); rintro e w8 ⟨rfl, hb⟩; have hl := Lv.kept (by assumption) hb; clear hb)
    | (go_at_call 36; (with_reducible refine (k3.out _).mono ?_); rintro e w8 ⟨rfl, hb⟩; have hl := Lv.kept (by assumption) hb; clear hb)
    | (go_at_call 37; (with_reducible refine (k4.out _).mono ?_); rintro e w8 ⟨rfl, hb⟩; have hl := Lv.kept (by assumption) hb; clear hb)
    | (go_at_call 36; (with_reducible refine (k5.out _).mono ?_); rintro e w8 ⟨rfl, hb⟩; have hl := Lv.kept (by assumption) hb; clear hb)
    | (go_at_call 37; (with_reducible refine (k6.out _).mono ?_); rintro e w8 ⟨rfl, hb⟩; have hl := Lv.kept (by assumption) hb; clear hb))
  all_goals go_wp2
  all_goals go_ret
  all_goals exact ⟨rfl, hl.below⟩
end Go.Proofs.Ythmkkanjjlechaa
