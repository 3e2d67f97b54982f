/- PhaseAdds: the walk. No statement is proved here. -/
import Derived.Test.YtmgkbgnjpgkdiaaPhLaws
namespace Go.Proofs.Ytmgkbgnjpgkdiaa
open Go.ChangeShapes Go.WideShapes Go.ChangeAt Go.RowKit
set_option linter.unusedVariables false
set_option linter.unusedSimpArgs false

theorem phV_moved {n d a p f q r : Int} (h : phV n d a p f = true) (hq : 0 ≤ q) (hq2 : q ≤ 1125899906842624) (hr : 0 ≤ r) (hr2 : r < d * 65536) : phV n d a q r = true := by
  obtain ⟨h1, h2, h3, h4, h5, h6⟩ := phV_iff.1 h
  exact phV_iff.2 ⟨h1, h2, h3, h4, ⟨hq, hq2⟩, hr, hr2⟩
theorem phV_tuned {n d a p f b : Int} (h : phV n d a p f = true) (hb : -4096 ≤ b) (hb2 : b ≤ 4096) : phV n d b p f = true := by
  obtain ⟨h1, h2, h3, h4, h5, h6⟩ := phV_iff.1 h
  exact phV_iff.2 ⟨h1, h2, h3, ⟨hb, hb2⟩, h5, h6⟩
theorem mv_far {n d a p f i : Int} (h : PhP n d a p f) (hi : 0 ≤ i) (hi2 : i ≤ 4000) : 0 ≤ mv n a f i / (d * 65536) ∧ mv n a f i / (d * 65536) ≤ 213959835648000 ∧ 0 ≤ mv n a f i % (d * 65536) ∧ mv n a f i % (d * 65536) < d * 65536 := by
  obtain ⟨hn, hd, ha, hp, hf⟩ := h
  obtain ⟨s1, s2⟩ := step_bd hn.1 hn.2 ha.1 ha.2
  obtain ⟨_, _, b1, _, b2, _, b3, b4⟩ := mv_bd hn ha hd hf hi (by omega)
  refine ⟨b2, ?_, b3, b4⟩
  have e3 := Int.ediv_le_self (d * 65536) b1
  unfold mv at *
  generalize n * (65536 + a) = S at *
  have e2 : i * S ≤ 4000 * 53477376000 := Int.mul_le_mul hi2 s2 (by omega) (by omega)
  omega
set_option maxRecDepth 100000 in
set_option maxHeartbeats 16000000 in
theorem phaseAdds_walk (a : Option Addr) (len cap : Nat) (l : List Int) (x y j : Int) (w : World) (hs : Sl .u8 w a len cap l) (hx : 0 ≤ x ∧ x ≤ 65535) (hy : 0 ≤ y ∧ y ≤ 65535) (hj : -32768 ≤ j ∧ j ≤ 32767) :
    Calls Try.prog 5 #[.slice a len cap, .int .u16 x, .int .u16 y, .int .i16 j] w fun e w' => e = .returned (.bool true) ∧ Below w.heap.size w w' := by
  have HS := hid hs
  clear hs
  obtain ⟨x0, x1⟩ := hx
  obtain ⟨y0, y1⟩ := hy
  obtain ⟨j0, j1⟩ := hj
  have HL0 := hid (Lv.start w)
  go_enter Try.func5, Try.ntmps5
  go_wp2_with fail
  (with_reducible refine (sane_any _).mono ?_); rintro e w1 ⟨rfl, hb⟩; have HL1 := hid (HL0.out.kept hb); clear hb HL0
  go_wp2_with fail
  (with_reducible refine (made_any a len cap l _ (HS.out.below HL1.out.below)).mono ?_); rintro e w2 ⟨⟨n, d, aa, p, f, rfl, hM⟩, hb⟩; have HL2 := hid (Lv.alloc (vs := [.int .i64 n, .int .i64 d, .int .i64 aa, .int .i64 p, .int .i64 f]) (T := 25) (HL1.out.kept hb)); clear hb HL1
  have m0 := Int.emod_nonneg x (show (2000 : Int) ≠ 0 by omega)
  have m1 := Int.emod_lt_of_pos x (show (0 : Int) < 2000 by omega)
  have k0 := Int.emod_nonneg y (show (2000 : Int) ≠ 0 by omega)
  have k1 := Int.emod_lt_of_pos y (show (0 : Int) < 2000 by omega)
  have t0 : -4096 < j.tmod 4096 := by have := Int.lt_tmod_of_pos j (show (0 : Int) < 4096 by omega); omega
  have t1 : j.tmod 4096 < 4096 := Int.tmod_lt_of_pos j (by omega)
  go_upto_region 5 with (fail)
  generalize w2.alloc (.cells #[.int .i64 n, .int .i64 d, .int .i64 aa, .int .i64 p, .int .i64 f] 25) = W3 at *
  generalize w2.heap.size = BP at *
  generalize x % 2000 = m at *
  generalize y % 2000 = k at *
  obtain ⟨hv, hp2⟩ := hM
  have hP := phV_P hv
  have hd1 := hP.2.1.1
  have hp0 := hP.2.2.2.1.1
  obtain ⟨q0, q1, r0, r1⟩ := mv_far hP m0 (by omega)
  have hv1 : phV n d aa (p + mv n aa f m / (d * 65536)) (mv n aa f m % (d * 65536)) = true := phV_moved hv (by omega) (by omega) r0 r1
  obtain ⟨u0, u1, v0, v1⟩ := mv_far (phV_P hv1) k0 (by omega)
  obtain ⟨e1, e2⟩ := two_steps (n := n) (a := aa) (f := f) (i := m) (j := k) hd1
  have e3 : p + mv n aa f m / (d * 65536) + mv n aa (mv n aa f m % (d * 65536)) k / (d * 65536) = p + mv n aa f (m + k) / (d * 65536) := by rw [Int.add_assoc, e2]
  have hmk : IntKind.i64.wrap (m + k) = m + k := IntWalk.i64_in _ (by omega)
  have c1 := hid (fun w => adv_ok n d aa p f m hv m0 (by omega) (by omega) w)
  have c2 := hid (fun w => adv_ok n d aa _ _ k hv1 k0 (by omega) (by omega) w)
  have hfar := mv_far hP (show 0 ≤ m + k by omega) (by omega)
  rw [e1, e3] at c2
  have c3 := hid (fun w => adv_ok n d aa p f (m + k) hv (by omega) (by omega) (by omega) w)
  have c4 := hid (fun w => tune_ok n d aa p f (j.tmod 4096) hv (by omega) (by omega) w)
  clear e1 e2 e3 hv1 u0 u1 v0 v1 q0 q1 r0 r1 hP hv hp2 hd1 hp0 x0 x1 y0 y1 hfar
  generalize p + mv n aa f m / (d * 65536) = P1 at *
  generalize mv n aa f m % (d * 65536) = F1 at *
  generalize p + mv n aa f (m + k) / (d * 65536) = P2 at *
  generalize mv n aa f (m + k) % (d * 65536) = F2 at *
  have hwj : wrap64 j = j := by unfold wrap64; omega
  generalize hJ : j.tmod 4096 = J at *
  have hwJ : (wrap64 j).tmod 4096 = J := by rw [hwj, hJ]
  have hL := HL2.out.facts
  simp only [liveAt, cellsAt, and_true, Nat.zero_add, Nat.reduceAdd, World.size_alloc] at hL
  go_wp2_with fail
  clear hL
  (with_reducible refine (c1.out _).mono ?_); rintro e w3 ⟨rfl, hb⟩; have hsz3 := (HL2.out.kept hb).size; have hbp3 := (HL2.out.kept hb).lt; have HL3 := hid (Lv.alloc (vs := [.int .i64 n, .int .i64 d, .int .i64 aa, .int .i64 P1, .int .i64 F1]) (T := 25) (HL2.out.kept hb)); clear hb HL2
  have hL := HL3.out.facts
  simp only [liveAt, cellsAt, and_true, Nat.zero_add, Nat.reduceAdd, World.size_alloc] at hL
  go_wp2_with fail
  clear hL
  (with_reducible refine (c2.out _).mono ?_); rintro e w4 ⟨rfl, hb⟩; have HL4 := hid (HL3.out.kept hb); clear hb HL3
  have hL := HL4.out.facts
  simp only [liveAt, cellsAt, and_true, Nat.zero_add, Nat.reduceAdd, World.size_alloc] at hL
  have hb3 : w.heap.size ≤ w3.heap.size := hsz3
  have hne3 : BP < w3.heap.size := hbp3
  go_upto_region 7 with (fail)
  have hD := Lv.set5 (x0 := n) (x1 := d) (x2 := aa) (x3 := P2) (x4 := F2) HL4.out (by simp; omega) hb3
  clear hL HL4
  generalize (((((w4.setCell ⟨w3.heap.size, 0, none⟩ (.int .i64 n)).setCell ⟨w3.heap.size, 1, none⟩ (.int .i64 d)).setCell ⟨w3.heap.size, 2, none⟩ (.int .i64 aa)).setCell ⟨w3.heap.size, 3, none⟩ (.int .i64 P2)).setCell ⟨w3.heap.size, 4, none⟩ (.int .i64 F2)) = W5 at *
  generalize w3.heap.size = BX at *
  have HL5 := hid hD
  clear hD
  have hL := HL5.out.facts
  simp only [liveAt, cellsAt, and_true, Nat.zero_add, Nat.reduceAdd, World.size_alloc] at hL
  go_wp2_with fail
  clear hL
  (with_reducible refine (c3.out _).mono ?_); rintro e w6 ⟨rfl, hb⟩; have HL6 := hid (Lv.alloc (vs := [.int .i64 n, .int .i64 d, .int .i64 aa, .int .i64 P2, .int .i64 F2]) (T := 25) (HL5.out.kept hb)); clear hb HL5
  have hL := HL6.out.facts
  simp only [liveAt, cellsAt, and_true, Nat.zero_add, Nat.reduceAdd, World.size_alloc] at hL
  go_wp2_with fail
  clear hL
  (with_reducible refine (c4.out _).mono ?_); rintro e w7 ⟨rfl, hb⟩; have HL7 := hid (Lv.alloc (vs := [.int .i64 n, .int .i64 d, .int .i64 J, .int .i64 p, .int .i64 f]) (T := 25) (HL6.out.kept hb)); clear hb HL6
  have hL := HL7.out.facts
  simp only [liveAt, cellsAt, and_true, Nat.zero_add, Nat.reduceAdd, World.size_alloc] at hL
  go_wp2_with fail
  go_ret
  exact ⟨rfl, HL7.out.below⟩
end Go.Proofs.Ytmgkbgnjpgkdiaa
