/- ControlSaturates: the walk. -/
import Derived.Test.YthmkkanjjlechaaControlLaws
import Derived.Test.YthmkkanjjlechaaControlPlan
namespace Go.Proofs.Ythmkkanjjlechaa
open Go.ChangeShapes Go.WideShapes Go.ChangeAt Go.RowKit
set_option linter.unusedVariables false
set_option linter.unusedSimpArgs false

theorem per_pos {n d : Int} (h : PerOk n d) : posV n d = true := by
  rcases h with ⟨rfl, rfl⟩ | ⟨rfl, rfl⟩ | ⟨rfl, rfl⟩ | ⟨rfl, rfl⟩ <;> decide
theorem sat_far {m g k : Int} (hm : 0 ≤ m ∧ m ≤ 4096) (hg : 1 ≤ g ∧ g ≤ 200) (hk : 0 ≤ k ∧ k ≤ 255) (h : m ≠ 0) : 0 < ceilV m g + k ∧ m ≤ (ceilV m g + k) * g := by
  have h1 : m + g - 1 < g * ((m + g - 1) / g) + g := Int.lt_mul_ediv_self_add (x := m + g - 1) (k := g) (by omega)
  have h2 := (ceil_bd hm.1 hg.1).1
  have e : (ceilV m g + k) * g = g * ((m + g - 1) / g) + k * g := by unfold ceilV; rw [Int.add_mul, Int.mul_comm]
  have h3 : 0 ≤ k * g := Int.mul_nonneg hk.1 (by omega)
  refine ⟨?_, by omega⟩
  unfold ceilV at *
  have : (m + g - 1) / g ≠ 0 := by intro h0; rw [h0] at h1; simp at h1; omega
  omega
theorem sat_up {t c g m k : Int} (h1 : 0 ≤ t ∧ t ≤ 2040) (h2 : 0 ≤ c ∧ c ≤ 59) (h3 : 1 ≤ g ∧ g ≤ 200) (h4 : 0 ≤ m ∧ m ≤ 4096) (h5 : 0 ≤ k ∧ k ≤ 255) :
    adjV t c g m (t + (c + ceilV m g + k)) = m ∧ (c + ceilV m g + k ≤ t → adjV t c g m (t - (c + ceilV m g + k)) = -m) ∧ 0 ≤ ceilV m g ∧ ceilV m g ≤ m := by
  have hc := ceil_bd h4.1 h3.1
  have hc' : 0 ≤ ceilV m g ∧ ceilV m g ≤ m := hc
  have key : (if c < c + ceilV m g + k then min m ((c + ceilV m g + k - c) * g) else 0) = m := by
    by_cases h0 : m = 0
    · have e : ceilV m g = 0 := by omega
      rw [e, h0]
      split
      · have : 0 ≤ (c + 0 + k - c) * g := Int.mul_nonneg (by omega) (by omega)
        omega
      · rfl
    · obtain ⟨a, b⟩ := sat_far h4 h3 h5 h0
      rw [if_pos (by omega), show c + ceilV m g + k - c = ceilV m g + k by omega]
      omega
  refine ⟨?_, fun h => ?_, hc'⟩
  · rw [adj_up h1 h2 h3 h4 (by omega) (by omega)]; exact key
  · rw [adj_down h1 h2 h3 h4 (by omega) h, key]
set_option maxRecDepth 100000 in
set_option maxHeartbeats 8000000 in
theorem controlSaturates_walk (a : Option Addr) (len cap : Nat) (l : List Int) (more : Int) (w : World) (hs : Sl .u8 w a len cap l) (hm : 0 ≤ more ∧ more ≤ 255) :
    Calls Try.prog 9 #[.slice a len cap, .int .u8 more] w fun e w' => e = .returned (.bool true) ∧ Below w.heap.size w w' := by
  have HS := hid hs
  obtain ⟨m1, m2⟩ := hm
  clear hs
  go_enter Try.func9, Try.ntmps9
  go_wp2_with (first
    | (go_at_call 13; (with_reducible refine (sane18_any _).mono ?_); rintro e w1 ⟨rfl, hb⟩; have HB := hid hb; clear hb)
    | (go_at_call 15; (with_reducible refine (new_any a len cap l _ (HS.out.below (HB.out))).mono ?_); rintro e w2 ⟨d, rfl, hd0, hdk, hb⟩; have HK := hid hdk; have HB2 := hid hb; clear hdk hb)
    | (go_at_call 14; (with_reducible refine (made18_any _ d HK.out).mono ?_); rintro e w3 ⟨⟨t, c, g, m, pn, pd, k, j, rfl, ⟨t1, t2⟩, ⟨c1, c2⟩, ⟨g1, g2⟩, hmm, hper, hkk, j1, j2⟩, hdk, hbt⟩; have HM := hid hmm; have HP := hid hper; have HKK := hid hkk; have HK2 := hid hdk; have HB3 := hid hbt; clear hmm hper hkk hdk hbt))
  have h3 : Below w.heap.size w w3 := by
    have h1 := HB.out
    have h2 := (HB2.out).mono h1.size
    exact (h1.trans h2).trans (HB3.out.below (Nat.le_trans h1.size hd0) (Nat.le_trans h1.size HB2.out.size))
  have hl0 := Lv.alloc (vs := [.int .i64 pn, .int .i64 pd]) (T := 27) (Lv.alloc (vs := [.int .i64 t, .int .i64 c, .int .i64 g, .int .i64 m]) (T := 23) (show Lv w w3 [] from ⟨h3, trivial⟩))
  simp only [World.size_alloc] at hl0
  generalize (w3.alloc (.cells #[.int .i64 t, .int .i64 c, .int .i64 g, .int .i64 m] 23)).alloc (.cells #[.int .i64 pn, .int .i64 pd] 27) = W4 at *
  generalize w3.heap.size = B at *
  have hm0 : 0 ≤ m ∧ m ≤ 4096 := by have := HM.out; simp at this; omega
  have hk0 : 0 ≤ k ∧ k ≤ 4096 := by have := HKK.out; simp at this; omega
  have key := sat_up (t := t) (c := c) (g := g) (m := m) (k := more) ⟨t1, t2⟩ ⟨c1, c2⟩ ⟨g1, g2⟩ hm0 ⟨m1, m2⟩
  have hpos := per_pos HP.out
  obtain ⟨hm1, hm2⟩ := hm0
  obtain ⟨hk1, hk2⟩ := hk0
  have hpb := most_bd (m := m) (k := k) (by omega) (by omega) hk1 hk2
  obtain ⟨hp1, hp2⟩ := hpb
  have eb : bndV t c g m pn pd k j 0 = (if m * (65536 - k) < 65536 * k then (0, 11) else (max 0 (c + ceilV m g) + twiV pn pd (k + m) + 2 * j + 2, 0)) := by
    have hc : chkV t c g m pn pd k j 0 = if m * (65536 - k) < 65536 * k then 11 else 0 := by
      unfold chkV; rw [if_pos ⟨ctlV_true.2 (by omega), decV_true.2 ⟨hpos, by omega, by omega⟩, by omega, by omega⟩]
    unfold bndV; rw [hc]
    by_cases h2 : m * (65536 - k) < 65536 * k
    · rw [if_pos h2, if_neg (by omega), if_pos h2]
    · rw [if_neg h2, if_pos rfl, if_neg h2]
  have cB := hid (fun w => bound_any t c g m pn pd k j 0 w)
  rw [eb] at cB
  have dv : (m + g - 1).tdiv g = ceilV m g := Int.tdiv_eq_ediv_of_nonneg (by omega)
  have q0 : (g == 0) = false := by simp; omega
  have q00 : ¬ g = 0 := by omega
  have DV := hid dv
  have KEY := hid key
  have hS := start6 hl0
  clear hl0 eb hpos key dv HB HB2 HB3 HK HK2 HS HKK HM HP h3
  obtain ⟨key1, key2, x0, x1⟩ := KEY.out
  generalize ceilV m g = X at *
  generalize max 0 (c + X) + twiV pn pd (k + m) + 2 * j + 2 = BV at *
  have q1 : IntKind.i64.wrap (m + g) = m + g := IntWalk.i64_in _ (by omega)
  have q2 : IntKind.i64.wrap (m + g - 1) = m + g - 1 := IntWalk.i64_in _ (by omega)
  have q3 : IntKind.i64.wrap X = X := IntWalk.i64_in _ (by omega)
  have q4 : IntKind.i64.wrap (c + X) = c + X := IntWalk.i64_in _ (by omega)
  have q5 : IntKind.i64.wrap more = more := IntWalk.i64_in _ (by omega)
  have q6 : IntKind.i64.wrap (c + X + more) = c + X + more := IntWalk.i64_in _ (by omega)
  have dv := DV.out
  have KEY1 := hid key1
  have KEY2 := hid key2
  clear key1 key2 KEY
  go_region_held3 (fun w' => w'.cell? ⟨B, 0, none⟩ = some (.int .i64 t) ∧ w'.cell? ⟨B, 1, none⟩ = some (.int .i64 c) ∧ w'.cell? ⟨B, 2, none⟩ = some (.int .i64 g) ∧ w'.cell? ⟨B, 3, none⟩ = some (.int .i64 m) ∧ w'.cell? ⟨B + 1, 0, none⟩ = some (.int .i64 pn) ∧ w'.cell? ⟨B + 1, 1, none⟩ = some (.int .i64 pd) ∧ Lv w w' [(B + 1, [.int .i64 pn, .int .i64 pd], 27), (B, [.int .i64 t, .int .i64 c, .int .i64 g, .int .i64 m], 23)]) (assumption) (fail)
  clear q1 q2 q3 q4 q5 q6 dv q0 q00 DV
  obtain ⟨s0, s1, s2, s3, s4, s5, hl2⟩ := hS
  have HL2 := hid hl2
  clear hl2
  have cA := hid (fun w => adj_any t c g m (t + (c + X + more)) w)
  have cD := hid (fun w => adj_any t c g m (t - (c + X + more)) w)
  rw [KEY1.out] at cA
  have D2 := hid (show t - (c + X + more) ≤ t - (c + X + more) from Int.le_refl _)
  go_wp2_with fail
  (with_reducible refine (cA.out _).mono ?_); rintro e w5 ⟨rfl, hb⟩; have HL3 := hid (HL2.out.kept hb); clear hb s0 s1 s2 s3 s4 s5
  have hL := HL3.out.facts
  simp only [liveAt, cellsAt, and_true, Nat.zero_add, Nat.reduceAdd] at hL
  go_wp2_with fail
  (with_reducible refine (cB.out _).mono ?_); rintro e w6 ⟨rfl, hb⟩; have HL4 := hid (HL3.out.kept hb); clear hb hL
  have hL := HL4.out.facts
  simp only [liveAt, cellsAt, and_true, Nat.zero_add, Nat.reduceAdd] at hL
  have kb1 : ¬ (m * (65536 - k) < 65536 * k) → 65536 * k ≤ m * (65536 - k) := by omega
  have KB := hid kb1
  clear kb1
  by_cases hlt : m * (65536 - k) < 65536 * k
  · have eb1 : (if m * (65536 - k) < 65536 * k then ((0 : Int), (11 : Int)) else (BV, 0)) = (0, 11) := if_pos hlt
    rw [eb1]
    have hf0 := HL4.out
    by_cases hf : c + X + more ≤ t
    · have hfd : decide (c + X + more ≤ t) = true := by simp; omega
      have hS := start6 hf0
      have q1 : IntKind.i64.wrap (-m) = -m := IntWalk.i64_in _ (by omega)
      have q2 : IntKind.i64.wrap (t - (c + X + more)) = t - (c + X + more) := IntWalk.i64_in _ (by omega)
      rw [KEY2.out hf] at cD
      clear hL hf0
      go_wp2_with fail
      go_region_held3 (fun w' => w'.cell? ⟨B, 0, none⟩ = some (.int .i64 t) ∧ w'.cell? ⟨B, 1, none⟩ = some (.int .i64 c) ∧ w'.cell? ⟨B, 2, none⟩ = some (.int .i64 g) ∧ w'.cell? ⟨B, 3, none⟩ = some (.int .i64 m) ∧ w'.cell? ⟨B + 1, 0, none⟩ = some (.int .i64 pn) ∧ w'.cell? ⟨B + 1, 1, none⟩ = some (.int .i64 pd) ∧ Lv w w' [(B + 1, [.int .i64 pn, .int .i64 pd], 27), (B, [.int .i64 t, .int .i64 c, .int .i64 g, .int .i64 m], 23)]) (assumption) (first | (go_at_call 16; refine (keep6 (cD.out _) (by assumption)).mono ?_; rintro e w' ⟨rfl, hS⟩))
      obtain ⟨s0, s1, s2, s3, s4, s5, hl2⟩ := hS
      have HL5 := hid hl2
      clear hl2 q1 q2
      go_wp2
      all_goals go_ret
      all_goals first
        | exact ⟨rfl, HL5.out.below⟩
        | (refine ⟨ret_bool (by simp; omega), HL5.out.below⟩)
        | trace_state
    · have hfd : decide (c + X + more ≤ t) = false := by simp; omega
      clear hf0
      go_wp2_with fail
      go_quiet (fail)
      go_wp2
      all_goals go_ret
      all_goals first
        | exact ⟨rfl, HL4.out.drewN.below⟩
        | exact ⟨rfl, HL4.out.below⟩
        | (refine ⟨ret_bool (by simp; omega), HL4.out.drewN.below⟩)
        | trace_state
  · have eb1 : (if m * (65536 - k) < 65536 * k then ((0 : Int), (11 : Int)) else (BV, 0)) = (BV, 0) := if_neg hlt
    have hge := KB.out hlt
    rw [eb1]
    clear hlt
    have hf0 := HL4.out
    by_cases hf : c + X + more ≤ t
    · have hfd : decide (c + X + more ≤ t) = true := by simp; omega
      have hS := start6 hf0
      have q1 : IntKind.i64.wrap (-m) = -m := IntWalk.i64_in _ (by omega)
      have q2 : IntKind.i64.wrap (t - (c + X + more)) = t - (c + X + more) := IntWalk.i64_in _ (by omega)
      rw [KEY2.out hf] at cD
      clear hL hf0
      go_wp2_with fail
      go_region_held3 (fun w' => w'.cell? ⟨B, 0, none⟩ = some (.int .i64 t) ∧ w'.cell? ⟨B, 1, none⟩ = some (.int .i64 c) ∧ w'.cell? ⟨B, 2, none⟩ = some (.int .i64 g) ∧ w'.cell? ⟨B, 3, none⟩ = some (.int .i64 m) ∧ w'.cell? ⟨B + 1, 0, none⟩ = some (.int .i64 pn) ∧ w'.cell? ⟨B + 1, 1, none⟩ = some (.int .i64 pd) ∧ Lv w w' [(B + 1, [.int .i64 pn, .int .i64 pd], 27), (B, [.int .i64 t, .int .i64 c, .int .i64 g, .int .i64 m], 23)]) (assumption) (first | (go_at_call 16; refine (keep6 (cD.out _) (by assumption)).mono ?_; rintro e w' ⟨rfl, hS⟩))
      obtain ⟨s0, s1, s2, s3, s4, s5, hl2⟩ := hS
      have HL5 := hid hl2
      clear hl2 q1 q2
      go_wp2
      all_goals go_ret
      all_goals first
        | exact ⟨rfl, HL5.out.below⟩
        | (refine ⟨ret_bool (by simp; omega), HL5.out.below⟩)
        | trace_state
    · have hfd : decide (c + X + more ≤ t) = false := by simp; omega
      clear hf0
      go_wp2_with fail
      go_quiet (fail)
      go_wp2
      all_goals go_ret
      all_goals first
        | exact ⟨rfl, HL4.out.drewN.below⟩
        | exact ⟨rfl, HL4.out.below⟩
        | (refine ⟨ret_bool (by simp; omega), HL4.out.drewN.below⟩)
        | trace_state
end Go.Proofs.Ythmkkanjjlechaa
