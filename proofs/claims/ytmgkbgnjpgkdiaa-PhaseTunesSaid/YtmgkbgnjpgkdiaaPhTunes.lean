/- PhaseTunes: the walk. No statement is proved here. -/
import Derived.Test.YtmgkbgnjpgkdiaaPhExact
namespace Go.Proofs.Ytmgkbgnjpgkdiaa
open Go.ChangeShapes Go.WideShapes Go.ChangeAt Go.RowKit
set_option linter.unusedVariables false
set_option linter.unusedSimpArgs false

theorem mv_far2 {n d a p f i : Int} (h : PhP n d a p f) (hi : 0 ≤ i) (hi2 : i ≤ 4000) : 0 ≤ mv n a f i / (d * 65536) ∧ mv n a f i / (d * 65536) ≤ 213959835648000 ∧ 0 ≤ mv n a f i % (d * 65536) ∧ mv n a f i % (d * 65536) < d * 65536 ∧ 0 ≤ i * n * (65536 + a) ∧ i * n * (65536 + a) ≤ 213909504000000 ∧ 0 ≤ i * n ∧ i * n ≤ 3072000000 := by
  obtain ⟨hn, hd, ha, hp, hf⟩ := h
  obtain ⟨s1, s2⟩ := step_bd hn.1 hn.2 ha.1 ha.2
  obtain ⟨_, _, b1, _, b2, _, b3, b4⟩ := mv_bd hn ha hd hf hi (by omega)
  have g1 : 0 ≤ i * n := Int.mul_nonneg hi (by omega)
  have g2 : i * n ≤ 4000 * 768000 := Int.mul_le_mul hi2 hn.2 (by omega) (by omega)
  rw [Int.mul_assoc i n]
  have e3 := Int.ediv_le_self (d * 65536) b1
  unfold mv at *
  generalize n * (65536 + a) = S at *
  have e2 : i * S ≤ 4000 * 53477376000 := Int.mul_le_mul hi2 s2 (by omega) (by omega)
  have e4 : 0 ≤ i * S := Int.mul_nonneg hi (by omega)
  exact ⟨b2, by omega, b3, b4, e4, by omega, g1, by omega⟩
theorem passed {n d a f p i : Int} : (p + mv n a f i / (d * 65536) - p) * d * 65536 + mv n a f i % (d * 65536) - f = i * n * (65536 + a) := by
  have h := Int.mul_ediv_add_emod (mv n a f i) (d * 65536)
  have e : p + mv n a f i / (d * 65536) - p = mv n a f i / (d * 65536) := by omega
  rw [e, Int.mul_assoc (mv n a f i / (d * 65536)) d 65536, Int.mul_comm (mv n a f i / (d * 65536)) (d * 65536), Int.mul_assoc i n]
  have hm : mv n a f i = f + i * (n * (65536 + a)) := rfl
  generalize d * 65536 = D at *
  generalize D * (mv n a f i / D) = X at *
  omega
set_option maxRecDepth 100000 in
set_option maxHeartbeats 16000000 in
theorem phaseTunes_walk (a : Option Addr) (len cap : Nat) (l : List Int) (x b c : Int) (w : World) (hs : Sl .u8 w a len cap l) (hx : 0 ≤ x ∧ x ≤ 65535) (hb : -32768 ≤ b ∧ b ≤ 32767) (hc : -32768 ≤ c ∧ c ≤ 32767) :
    Calls Try.prog 8 #[.slice a len cap, .int .u16 x, .int .i16 b, .int .i16 c] w fun e w' => e = .returned (.bool true) ∧ Below w.heap.size w w' := by
  have HS := hid hs
  clear hs
  obtain ⟨x0, x1⟩ := hx
  have m0 := Int.emod_nonneg x (show (2000 : Int) ≠ 0 by omega)
  have m1 := Int.emod_lt_of_pos x (show (0 : Int) < 2000 by omega)
  have b0 : -4096 < b.tmod 4096 := by have := Int.lt_tmod_of_pos b (show (0 : Int) < 4096 by omega); omega
  have b1 : b.tmod 4096 < 4096 := Int.tmod_lt_of_pos b (by omega)
  have c0 : -4096 < c.tmod 4096 := by have := Int.lt_tmod_of_pos c (show (0 : Int) < 4096 by omega); omega
  have c1 : c.tmod 4096 < 4096 := Int.tmod_lt_of_pos c (by omega)
  have hwb : wrap64 b = b := by unfold wrap64; omega
  have hwc : wrap64 c = c := by unfold wrap64; omega
  have HL0 := hid (Lv.start w)
  go_enter Try.func8, Try.ntmps8
  go_wp2_with fail
  (with_reducible refine (sane_any _).mono ?_); rintro e w1 ⟨rfl, hb⟩; have HL1 := hid (HL0.out.kept hb); clear hb HL0
  go_wp2_with fail
  (with_reducible refine (made_any a len cap l _ (HS.out.below HL1.out.below)).mono ?_); rintro e w2 ⟨⟨n, d, aa, p, f, rfl, hM⟩, hb⟩; have HL2 := hid (Lv.alloc (vs := [.int .i64 n, .int .i64 d, .int .i64 aa, .int .i64 p, .int .i64 f]) (T := 25) (HL1.out.kept hb)); have hsz2 := (HL1.out.kept hb).size; clear hb HL1
  go_upto_region 4 with (fail)
  generalize w2.alloc (.cells #[.int .i64 n, .int .i64 d, .int .i64 aa, .int .i64 p, .int .i64 f] 25) = W3 at *
  generalize w2.heap.size = BP at *
  go_upto_region 6 with (fail)
  generalize hA : (if c < b then c else b).tmod 4096 = A at *
  generalize hB : (if b < c then c else b).tmod 4096 = B at *
  have hA0 : -4096 < A ∧ A < 4096 := by rw [← hA]; split <;> exact ⟨by assumption, by assumption⟩
  have hB0 : -4096 < B ∧ B < 4096 := by rw [← hB]; split <;> exact ⟨by assumption, by assumption⟩
  clear hA hB
  generalize (if c < b then c else b) = MN at *
  generalize (if b < c then c else b) = MX at *
  generalize hLO : (if B < A then B else A) = LO at *
  generalize hHI : (if A < B then B else A) = HI at *
  have hl : -4096 < LO ∧ LO ≤ HI ∧ HI < 4096 := by rw [← hLO, ← hHI]; split <;> split <;> omega
  obtain ⟨l0, l1, l2⟩ := hl
  generalize x % 2000 = K at *
  clear hA0 hB0 hLO hHI b0 b1 c0 c1
  obtain ⟨hv, hp2⟩ := hM
  have hvL := phV_tuned (b := LO) hv (by omega) (by omega)
  have hvH := phV_tuned (b := HI) hv (by omega) (by omega)
  have hPH := phV_P hvH
  have hPL := phV_P hvL
  have sL := step_bd hPL.1.1 hPL.1.2 hPL.2.2.1.1 hPL.2.2.1.2
  have sH := step_bd hPH.1.1 hPH.1.2 hPH.2.2.1.1 hPH.2.2.1.2
  have hd1 := hPH.2.1
  have hp0 := hPH.2.2.2.1
  have hf0 := hPH.2.2.2.2
  have sLH : n * (65536 + LO) ≤ n * (65536 + HI) := Int.mul_le_mul_of_nonneg_left (by omega) (by have := hPH.1.1; omega)
  obtain ⟨q0, q1, r0, r1, y0, y1, z0, z1⟩ := mv_far2 hPH m0 (by omega)
  have cT1 := hid (fun w => tune_ok n d aa p f LO hv (by omega) (by omega) w)
  have cT2 := hid (fun w => tune_ok n d aa p f HI hv (by omega) (by omega) w)
  have cN1 := hid (fun w => pneed_ok n d LO p f K hvL m0 (by omega) w)
  have cN2 := hid (fun w => pneed_ok n d HI p f K hvH m0 (by omega) w)
  have cM1 := hid (fun w => pmake_ok n d LO p f K hvL m0 (by omega) w)
  have cM2 := hid (fun w => pmake_ok n d HI p f K hvH m0 (by omega) w)
  have cA := hid (fun w => adv_ok n d HI p f K hvH m0 (by omega) (by omega) w)
  have hUV := nd_step (f := f) (k := K) sLH hd1.1 m0
  have hIJ := mkN_mono (n := n) (d := d) (a := LO) (b := HI) (f := f) (m := K) (l := 0) (by omega) sLH hd1.1 hf0.1 m0
  have hE := passed (n := n) (d := d) (a := HI) (f := f) (p := p) (i := K)
  clear hvL hvH hPH hPL sL sH sLH hv hp2
  generalize nd n d LO f K = U at *
  generalize nd n d HI f K = V at *
  generalize mkN n d LO f K = I at *
  generalize mkN n d HI f K = J at *
  generalize mv n HI f K / (d * 65536) = Q at *
  generalize mv n HI f K % (d * 65536) = F1 at *
  have hH : wrap64 (65536 + HI) = 65536 + HI := by unfold wrap64; omega
  generalize hHH : 65536 + HI = H at *
  have w1' : wrap64 (K * n) = K * n := by unfold wrap64; omega
  generalize hKN : K * n = X at *
  have w2' : wrap64 (X * H) = X * H := by unfold wrap64; omega
  generalize hXH : X * H = Y at *
  have hQ0 : 0 ≤ Q * d ∧ Q * d * 65536 ≤ 1000000000000000 ∧ 0 ≤ Q * d * 65536 := by
    have e : p + Q - p = Q := by omega
    rw [e] at hE
    have := Int.mul_nonneg q0 (show 0 ≤ d by omega)
    omega
  have w3' : wrap64 (p + Q - p) = Q := by unfold wrap64; omega
  have e3 : p + Q - p = Q := by omega
  rw [e3] at hE
  have w4' : wrap64 (Q * d) = Q * d := by unfold wrap64; omega
  have w4a : wrap64 Q = Q := by unfold wrap64; omega
  generalize hQd : Q * d = G at *
  have w5' : wrap64 (G * 65536) = G * 65536 := by unfold wrap64; omega
  have w6' : wrap64 (G * 65536 + F1) = G * 65536 + F1 := by unfold wrap64; omega
  have w7' : wrap64 (G * 65536 + F1 - f) = Y := by unfold wrap64; omega
  have v1' : decide (U ≤ V) = true := decide_eq_true hUV
  have v2' : decide ((J : Int) ≤ (I : Int)) = true := decide_eq_true (by omega)
  have v3' : (Y == Y) = true := by simp
  have v4' : decide (J ≤ I) = true := decide_eq_true hIJ
  clear hUV q0 q1 r0 r1 y0 y1 z0 z1 hQ0 hd1 hp0 hf0 m0 m1 l0 l1 l2
  generalize p + Q = P1 at *
  have hL := HL2.out.facts
  simp only [liveAt, cellsAt, and_true, Nat.zero_add, Nat.reduceAdd, World.size_alloc] at hL
  go_wp2_with fail
  clear hL
  (with_reducible refine (cT1.out _).mono ?_); rintro e w3 ⟨rfl, hb⟩; have HL3 := hid (Lv.alloc (vs := [.int .i64 n, .int .i64 d, .int .i64 LO, .int .i64 p, .int .i64 f]) (T := 25) (HL2.out.kept hb)); clear hb HL2
  have hL := HL3.out.facts
  simp only [liveAt, cellsAt, and_true, Nat.zero_add, Nat.reduceAdd, World.size_alloc] at hL
  go_wp2_with fail
  clear hL
  (with_reducible refine (cT2.out _).mono ?_); rintro e w4 ⟨rfl, hb⟩; have HL4 := hid (Lv.alloc (vs := [.int .i64 n, .int .i64 d, .int .i64 HI, .int .i64 p, .int .i64 f]) (T := 25) (HL3.out.kept hb)); clear hb HL3
  have hL := HL4.out.facts
  simp only [liveAt, cellsAt, and_true, Nat.zero_add, Nat.reduceAdd, World.size_alloc] at hL
  go_wp2_with fail
  clear hL
  (with_reducible refine (cN1.out _).mono ?_); rintro e w5 ⟨rfl, hb⟩; have HL5 := hid (HL4.out.kept hb); clear hb HL4
  have hL := HL5.out.facts
  simp only [liveAt, cellsAt, and_true, Nat.zero_add, Nat.reduceAdd, World.size_alloc] at hL
  go_wp2_with fail
  clear hL
  (with_reducible refine (cN2.out _).mono ?_); rintro e w6 ⟨rfl, hb⟩; have HL6 := hid (HL5.out.kept hb); clear hb HL5
  have hL := HL6.out.facts
  simp only [liveAt, cellsAt, and_true, Nat.zero_add, Nat.reduceAdd, World.size_alloc] at hL
  go_wp2_with fail
  clear hL
  (with_reducible refine (cM1.out _).mono ?_); rintro e w7 ⟨rfl, hb⟩; have HL7 := hid (HL6.out.kept hb); clear hb HL6
  have hL := HL7.out.facts
  simp only [liveAt, cellsAt, and_true, Nat.zero_add, Nat.reduceAdd, World.size_alloc] at hL
  go_wp2_with fail
  clear hL
  (with_reducible refine (cM2.out _).mono ?_); rintro e w8 ⟨rfl, hb⟩; have HL8 := hid (HL7.out.kept hb); clear hb HL7
  have hL := HL8.out.facts
  simp only [liveAt, cellsAt, and_true, Nat.zero_add, Nat.reduceAdd, World.size_alloc] at hL
  go_wp2_with fail
  clear hL
  (with_reducible refine (cA.out _).mono ?_); rintro e w9 ⟨rfl, hb⟩; have HL9 := hid (Lv.alloc (vs := [.int .i64 n, .int .i64 d, .int .i64 HI, .int .i64 P1, .int .i64 F1]) (T := 25) (HL8.out.kept hb)); clear hb HL8
  have hL := HL9.out.facts
  simp only [liveAt, cellsAt, and_true, Nat.zero_add, Nat.reduceAdd, World.size_alloc] at hL
  go_wp2_with fail
  go_ret
  exact ⟨rfl, HL9.out.below⟩
end Go.Proofs.Ytmgkbgnjpgkdiaa
