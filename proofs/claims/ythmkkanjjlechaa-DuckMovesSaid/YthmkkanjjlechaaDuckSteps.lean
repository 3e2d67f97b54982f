/- DuckSteps: the walk. -/
import Derived.Test.YthmkkanjjlechaaDuckQ
namespace Go.Proofs.Ythmkkanjjlechaa
open Go.ChangeShapes Go.WideShapes Go.ChangeAt Go.RowKit
set_option linter.unusedVariables false
set_option linter.unusedSimpArgs false

theorem stepV_ok {g q a r h x p : Int} (hv : duV g q a r h = true ∧ (0 ≤ x ∧ x ≤ 262144) ∧ 16 ≤ p ∧ p ≤ 8192) : stepV g q a r h x p = (nexV g q a r h x, (g, (nexV g q a r h x).1, p, 0), 0) := by
  unfold stepV; rw [if_neg (by rw [hv.1]; simp), if_pos ⟨hv.2.1.1, hv.2.1.2, hv.2.2⟩]
theorem stepV_no {g q a r h x p : Int} (hv : ¬ (duV g q a r h = true ∧ (0 ≤ x ∧ x ≤ 262144) ∧ 16 ≤ p ∧ p ≤ 8192)) : stepV g q a r h x p = ((0, 0), (0, 0, 0, 0), if duV g q a r h = true then 2 else 1) := by
  unfold stepV
  cases h1 : duV g q a r h
  · rfl
  · rw [if_neg (by simp), if_neg (fun k => hv ⟨h1, ⟨k.1, k.2.1⟩, k.2.2⟩)]; rfl
theorem dstep_any (g q a r h x p : Int) (w : World) :
    Calls Try.prog 34 #[.agg #[.int .i64 g, .int .i64 q], .agg #[.int .i64 a, .int .i64 r, .int .i64 h], .int .i64 x, .int .i64 p] w fun e w' => e = .returned (.tuple #[.agg #[.int .i64 (stepV g q a r h x p).1.1, .int .i64 (stepV g q a r h x p).1.2], .agg #[.int .i64 (stepV g q a r h x p).2.1.1, .int .i64 (stepV g q a r h x p).2.1.2.1, .int .i64 (stepV g q a r h x p).2.1.2.2.1, .int .i64 (stepV g q a r h x p).2.1.2.2.2], .int .i64 (stepV g q a r h x p).2.2]) ∧ Below w.heap.size w w' := by
  by_cases hv : duV g q a r h = true ∧ (0 ≤ x ∧ x ≤ 262144) ∧ 16 ≤ p ∧ p ≤ 8192
  · rw [stepV_ok hv]
    exact dstep_ok g q a r h x p hv.1 hv.2.1 hv.2.2 w
  · rw [stepV_no hv]
    exact dstep_no g q a r h x p hv w
theorem rdstep_any (g q a r h x p : Int) (w : World) :
    Calls Try.prog 35 #[.agg #[.int .i64 g, .int .i64 q], .agg #[.int .i64 a, .int .i64 r, .int .i64 h], .int .i64 x, .int .i64 p] w fun e w' => e = .returned (.tuple #[.agg #[.int .i64 (stepV g q a r h x p).1.1, .int .i64 (stepV g q a r h x p).1.2], .agg #[.int .i64 (stepV g q a r h x p).2.1.1, .int .i64 (stepV g q a r h x p).2.1.2.1, .int .i64 (stepV g q a r h x p).2.1.2.2.1, .int .i64 (stepV g q a r h x p).2.1.2.2.2], .int .i64 (stepV g q a r h x p).2.2]) ∧ Below w.heap.size w w' := by
  by_cases hv : duV g q a r h = true ∧ (0 ≤ x ∧ x ≤ 262144) ∧ 16 ≤ p ∧ p ≤ 8192
  · rw [stepV_ok hv]
    exact rdstep_ok g q a r h x p hv.1 hv.2.1 hv.2.2 w
  · rw [stepV_no hv]
    exact rdstep_no g q a r h x p hv w
theorem pick2 {W w : World} {b : Nat} {T : TypeId} {x0 x1 : Int} {L : List (Nat × List Value × TypeId)} (h : Lv W w ((b, [.int .i64 x0, .int .i64 x1], T) :: L)) (k : Nat) (hk : k < 2) :
    ∃ x : Int, w.cell? ⟨b, k, none⟩ = some (.int .i64 x) ∧ (x = x0 ∨ x = x1) := by
  have hL := h.facts
  simp only [liveAt, cellsAt, Nat.zero_add] at hL
  obtain ⟨⟨y0, _, y1, _⟩, _⟩ := hL
  match k, hk with
  | 0, _ => exact ⟨x0, y0, .inl rfl⟩
  | 1, _ => exact ⟨x1, y1, .inr rfl⟩
set_option maxRecDepth 100000 in
set_option maxHeartbeats 16000000 in
theorem duckSteps_walk (a : Option Addr) (len cap : Nat) (l : List Int) (g1 q1 a1 r1 h1 x p : Int) (w : World) (hs : Sl .i64 w a len cap l) (hx : -9223372036854775808 ≤ x ∧ x ≤ 9223372036854775807) (hp : -9223372036854775808 ≤ p ∧ p ≤ 9223372036854775807) :
    Calls Try.prog 10 #[.slice a len cap, .agg #[.int .i64 g1, .int .i64 q1], .agg #[.int .i64 a1, .int .i64 r1, .int .i64 h1], .int .i64 x, .int .i64 p] w fun e w' => e = .returned (.bool true) ∧ Below w.heap.size w w' := by
  have HS := hid hs
  clear hs
  have hl0 := Lv.alloc (vs := [.int .i64 a1, .int .i64 r1, .int .i64 h1]) (T := 61) (Lv.alloc (vs := [.int .i64 g1, .int .i64 q1]) (T := 59) (Lv.start w))
  simp only [World.size_alloc] at hl0
  have HL0 := hid hl0
  clear hl0
  obtain ⟨hx1, hx2⟩ := hx
  obtain ⟨hp1, hp2⟩ := hp
  have cm := hid (fun w => mod_any x 262145 (by omega) (by omega) w)
  have cm2 := hid (fun w => mod_any p 500 (by omega) (by omega) w)
  have m1 := Int.emod_nonneg p (show (500 : Int) ≠ 0 by omega)
  have m2 := Int.emod_lt_of_pos p (show (0 : Int) < 500 by omega)
  generalize x % 262145 = xm at *
  generalize p % 500 = pm at *
  go_enter Try.func10, Try.ntmps10
  go_wp2_with fail
  (with_reducible refine (sane32_any _).mono ?_); rintro e w1 ⟨rfl, hb⟩; have HL1 := hid (HL0.out.kept hb); clear hb HL0
  go_wp2_with fail
  (with_reducible refine (made32_any a len cap l _ (HS.out.below HL1.out.below)).mono ?_); rintro e w2 ⟨⟨g2, q2, a2, r2, h2, rfl, hv, hr9, hh5⟩, hb⟩; have HL2 := hid (Lv.alloc (vs := [.int .i64 a2, .int .i64 r2, .int .i64 h2]) (T := 61) (Lv.alloc (vs := [.int .i64 g2, .int .i64 q2]) (T := 59) (HL1.out.kept hb))); clear hb HL1 HS hv hr9 hh5
  go_upto_region 4 with (fail)
  have HL3 := HL2.out
  simp only [World.size_alloc] at HL3
  generalize (w2.alloc (.cells #[.int .i64 g2, .int .i64 q2] 59)).alloc (.cells #[.int .i64 a2, .int .i64 r2, .int .i64 h2] 61) = W3 at *
  have hl := HL3.drew
  clear HL2
  generalize w2.heap.size + 1 = B3 at *
  generalize w2.heap.size = B4 at *
  generalize w.heap.size + 1 = B1 at *
  have hc := cells10 hl
  have k1 := hid (fun w => dvalid_any g1 q1 a1 r1 h1 w)
  have k2 := hid (fun w => rdvalid_any g1 q1 a1 r1 h1 w)
  have k3 := hid (fun w => dvalid_any g2 q2 a1 r1 h1 w)
  have k4 := hid (fun w => rdvalid_any g2 q2 a1 r1 h1 w)
  have k5 := hid (fun w => dvalid_any g1 q1 a2 r2 h2 w)
  have k6 := hid (fun w => rdvalid_any g1 q1 a2 r2 h2 w)
  generalize duV g1 q1 a1 r1 h1 = V1 at *
  generalize duV g2 q2 a1 r1 h1 = V2 at *
  generalize duV g1 q1 a2 r2 h2 = V3 at *
  have v1 : (V1 != V1) = false := by simp
  have v2 : (V2 != V2) = false := by simp
  have v3 : (V3 != V3) = false := by simp
  clear HL3
  go_region_held3 (fun w' => w'.cell? ⟨B3, 0, none⟩ = some (.int .i64 a2) ∧ w'.cell? ⟨B3, 1, none⟩ = some (.int .i64 r2) ∧ w'.cell? ⟨B3, 2, none⟩ = some (.int .i64 h2) ∧ w'.cell? ⟨B4, 0, none⟩ = some (.int .i64 g2) ∧ w'.cell? ⟨B4, 1, none⟩ = some (.int .i64 q2) ∧ w'.cell? ⟨B1, 0, none⟩ = some (.int .i64 a1) ∧ w'.cell? ⟨B1, 1, none⟩ = some (.int .i64 r1) ∧ w'.cell? ⟨B1, 2, none⟩ = some (.int .i64 h1) ∧ w'.cell? ⟨w.heap.size, 0, none⟩ = some (.int .i64 g1) ∧ w'.cell? ⟨w.heap.size, 1, none⟩ = some (.int .i64 q1)) (exact cells10 (by assumption)) (first
    | (go_at_call 31; (with_reducible refine (k1.out _).mono ?_); rintro e w8 ⟨rfl, hb⟩; have hl := Lv.kept (by assumption) hb; clear hb)
    | (go_at_call 32; (with_reducible refine (k2.out _).mono ?_); rintro e w8 ⟨rfl, hb⟩; have hl := Lv.kept (by assumption) hb; clear hb)
    | (go_at_call 31; (with_reducible refine (k3.out _).mono ?_); rintro e w8 ⟨rfl, hb⟩; have hl := Lv.kept (by assumption) hb; clear hb)
    | (go_at_call 32; (with_reducible refine (k4.out _).mono ?_); rintro e w8 ⟨rfl, hb⟩; have hl := Lv.kept (by assumption) hb; clear hb)
    | (go_at_call 31; (with_reducible refine (k5.out _).mono ?_); rintro e w8 ⟨rfl, hb⟩; have hl := Lv.kept (by assumption) hb; clear hb)
    | (go_at_call 32; (with_reducible refine (k6.out _).mono ?_); rintro e w8 ⟨rfl, hb⟩; have hl := Lv.kept (by assumption) hb; clear hb))
  all_goals skip
  have HL4 := hid hl
  clear hl k1 k2 k3 k4 k5 k6 v1 v2 v3
  go_wp2_with fail
  (with_reducible refine (cm.out _).mono ?_); rintro e w9 ⟨rfl, rfl⟩
  have HL5 := hid (Lv.alloc (vs := [.int .i64 x, .int .i64 xm]) (T := 3) HL4.out)
  clear HL4 cm
  go_upto_region 7 with (fail)
  generalize w8.alloc (.cells #[.int .i64 x, .int .i64 xm] 3) = W9 at *
  generalize w8.heap.size = B5 at *
  go_loopw [66] (fun i wr => ∃ k : Nat, k ≤ 2 ∧ i = .int .i64 k ∧ Hid (Lv w wr [(B5, [.int .i64 x, .int .i64 xm], 3), (B3, [.int .i64 a2, .int .i64 r2, .int .i64 h2], 61), (B4, [.int .i64 g2, .int .i64 q2], 59), (B1, [.int .i64 a1, .int .i64 r1, .int .i64 h1], 61), (w.heap.size, [.int .i64 g1, .int .i64 q1], 59)])) (fun i _ => 2 - (intOf i).toNat)
  case atStart => exact ⟨0, by omega, rfl, HL5⟩
  case round =>
    obtain ⟨k, hk, rfl, hl⟩ := hrel
    clear HL5
    obtain ⟨wo, rfl⟩ : ∃ wo : World, wo = wr := ⟨_, rfl⟩
    by_cases hlt : k < 2
    · obtain ⟨X, f0, _⟩ := pick2 hl.out k hlt
      have hkb : decide ((k : Int) < 2) = true := by simp; omega
      go_wp2_with fail
      (with_reducible refine (cm2.out _).mono ?_); rintro e w9 ⟨rfl, rfl⟩
      clear f0
      have HL6 := hid (Lv.alloc (vs := [.int .i64 p, .int .i64 (16 + pm)]) (T := 3) hl.out)
      clear hl
      go_upto_region 10 with (fail)
      generalize wo.alloc (.cells #[.int .i64 p, .int .i64 (16 + pm)] 3) = W10 at *
      generalize wo.heap.size = B6 at *
      go_loopw [76] (fun i wq => ∃ jj : Nat, jj ≤ 2 ∧ i = .int .i64 jj ∧ Hid (Lv w wq [(B6, [.int .i64 p, .int .i64 (16 + pm)], 3), (B5, [.int .i64 x, .int .i64 xm], 3), (B3, [.int .i64 a2, .int .i64 r2, .int .i64 h2], 61), (B4, [.int .i64 g2, .int .i64 q2], 59), (B1, [.int .i64 a1, .int .i64 r1, .int .i64 h1], 61), (w.heap.size, [.int .i64 g1, .int .i64 q1], 59)])) (fun i _ => 2 - (intOf i).toNat)
      case atStart => exact ⟨0, by omega, rfl, HL6⟩
      case round =>
        obtain ⟨jj, hjj, rfl, hl⟩ := hrel
        clear HL6
        by_cases hlt2 : jj < 2
        · obtain ⟨P, g0, _⟩ := pick2 hl.out jj hlt2
          have hjb : decide ((jj : Int) < 2) = true := by simp; omega
          have c1 := hid (fun w => dstep_any g2 q2 a2 r2 h2 X P w)
          have c2 := hid (fun w => rdstep_any g2 q2 a2 r2 h2 X P w)
          have c3 := hid (fun w => dstep_any g1 q1 a1 r1 h1 X P w)
          have c4 := hid (fun w => rdstep_any g1 q1 a1 r1 h1 X P w)
          generalize (stepV g2 q2 a2 r2 h2 X P).1.1 = A0 at *
          generalize (stepV g2 q2 a2 r2 h2 X P).1.2 = A1 at *
          generalize (stepV g2 q2 a2 r2 h2 X P).2.1.1 = A2 at *
          generalize (stepV g2 q2 a2 r2 h2 X P).2.1.2.1 = A3 at *
          generalize (stepV g2 q2 a2 r2 h2 X P).2.1.2.2.1 = A4 at *
          generalize (stepV g2 q2 a2 r2 h2 X P).2.1.2.2.2 = A5 at *
          generalize (stepV g2 q2 a2 r2 h2 X P).2.2 = A6 at *
          generalize (stepV g1 q1 a1 r1 h1 X P).1.1 = D0 at *
          generalize (stepV g1 q1 a1 r1 h1 X P).1.2 = D1 at *
          generalize (stepV g1 q1 a1 r1 h1 X P).2.1.1 = D2 at *
          generalize (stepV g1 q1 a1 r1 h1 X P).2.1.2.1 = D3 at *
          generalize (stepV g1 q1 a1 r1 h1 X P).2.1.2.2.1 = D4 at *
          generalize (stepV g1 q1 a1 r1 h1 X P).2.1.2.2.2 = D5 at *
          generalize (stepV g1 q1 a1 r1 h1 X P).2.2 = D6 at *
          have hL := hl.out.facts
          simp only [liveAt, cellsAt, and_true, Nat.zero_add, Nat.reduceAdd, World.size_alloc] at hL
          go_wp2_with fail
          clear hL g0
          (with_reducible refine (c1.out _).mono ?_); rintro e v0 ⟨rfl, hb⟩; have K1 := hid (Lv.alloc (vs := [.int .i64 A2, .int .i64 A3, .int .i64 A4, .int .i64 A5]) (T := 67) (Lv.alloc (vs := [.int .i64 A0, .int .i64 A1]) (T := 59) (hl.out.kept hb))); clear hb hl c1
          have hL := K1.out.facts
          simp only [liveAt, cellsAt, and_true, Nat.zero_add, Nat.reduceAdd, World.size_alloc] at hL
          go_wp2_with fail
          clear hL
          (with_reducible refine (c2.out _).mono ?_); rintro e v1 ⟨rfl, hb⟩; have K2 := hid (Lv.alloc (vs := [.int .i64 A2, .int .i64 A3, .int .i64 A4, .int .i64 A5]) (T := 67) (Lv.alloc (vs := [.int .i64 A0, .int .i64 A1]) (T := 59) (K1.out.kept hb))); clear hb K1 c2
          have hL := K2.out.facts
          simp only [liveAt, cellsAt, and_true, Nat.zero_add, Nat.reduceAdd, World.size_alloc] at hL
          go_wp2_with fail
          clear hL
          (with_reducible refine (c3.out _).mono ?_); rintro e v2 ⟨rfl, hb⟩; have K3 := hid (Lv.alloc (vs := [.int .i64 D2, .int .i64 D3, .int .i64 D4, .int .i64 D5]) (T := 67) (Lv.alloc (vs := [.int .i64 D0, .int .i64 D1]) (T := 59) (K2.out.kept hb))); clear hb K2 c3
          have hL := K3.out.facts
          simp only [liveAt, cellsAt, and_true, Nat.zero_add, Nat.reduceAdd, World.size_alloc] at hL
          go_wp2_with fail
          clear hL
          (with_reducible refine (c4.out _).mono ?_); rintro e v3 ⟨rfl, hb⟩; have K4 := hid (Lv.alloc (vs := [.int .i64 D2, .int .i64 D3, .int .i64 D4, .int .i64 D5]) (T := 67) (Lv.alloc (vs := [.int .i64 D0, .int .i64 D1]) (T := 59) (K3.out.kept hb))); clear hb K3 c4
          have hL := K4.out.facts
          simp only [liveAt, cellsAt, and_true, Nat.zero_add, Nat.reduceAdd, World.size_alloc] at hL
          go_wp2_with fail
          clear hL
          have K5 := hid K4.out.drop.drop.drop.drop.drop.drop.drop.drop
          clear K4
          go_roundw
          case rel => first | exact ⟨jj + 1, by omega, by go_num, K5⟩ | ((repeat apply Exists.intro); exact ⟨⟨jj + 1, by omega, by go_num, K5⟩, rfl⟩)
          case measure => simp [intOf]; omega
        · have K6 := hid hl.out.drop
          clear hl
          go_wp2_with fail
          go_roundw
          case rel => first | exact ⟨k + 1, by omega, by go_num, K6⟩ | ((repeat apply Exists.intro); exact ⟨⟨k + 1, by omega, by go_num, K6⟩, rfl⟩)
          case measure => simp [intOf]; omega
    · go_wp2_with fail
      go_ret
      exact ⟨rfl, hl.out.below⟩
end Go.Proofs.Ythmkkanjjlechaa
