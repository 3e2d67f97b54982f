/- ControlWeaker: more drift or jitter never asks for less. -/
import Derived.Test.YthmkkanjjlechaaControlPlanning
import Derived.Test.YthmkkanjjlechaaControlSaturates
import Derived.Outline
namespace Go.Proofs.Ythmkkanjjlechaa
open Go.ChangeShapes Go.WideShapes Go.ChangeAt Go.RowKit
set_option linter.unusedVariables false
set_option linter.unusedSimpArgs false
def pOk (n d k j : Int) : Bool := decide (twiV n d k + j + 1 ≤ 65536 ∧ (demV 0 4 9 (mostV k) n d k j).1 + (bndV 0 4 9 (mostV k) n d k j (twiV n d k + j + 1)).1 + (bndV 0 4 9 (mostV k) n d k j (twiV n d k + j + 1)).1 ≤ 65536)
def pT (n d k j : Int) : Int := (demV 0 4 9 (mostV k) n d k j).1 + (bndV 0 4 9 (mostV k) n d k j (twiV n d k + j + 1)).1
def pC (n d k j : Int) : Int := (demV 0 4 9 (mostV k) n d k j).1 + (bndV 0 4 9 (mostV k) n d k j (twiV n d k + j + 1)).1 + (bndV 0 4 9 (mostV k) n d k j (twiV n d k + j + 1)).1
/-- the six numbers of Plan -/
def sel (b : Bool) (x y : Int) : Int := if b = true then x else y
theorem plan_six (n d k j : Int) (h : decV n d k j = true) (hk : k ≤ 512) (w : World) :
    Calls Try.prog 24 #[.agg #[.int .i64 n, .int .i64 d], .int .i64 k, .int .i64 j, .int .i64 4, .int .i64 9] w fun e w' => e = .returned (.tuple #[.agg #[.int .i64 (sel (pOk n d k j) (pT n d k j) 0), .int .i64 (sel (pOk n d k j) 4 0), .int .i64 (sel (pOk n d k j) 9 0), .int .i64 (sel (pOk n d k j) (mostV k) 0)], .int .i64 (sel (pOk n d k j) (pC n d k j) 0), .int .i64 (sel (pOk n d k j) 0 3)]) ∧ Below w.heap.size w w' := by
  refine (plan_small n d k j h hk w).mono fun e w' ⟨h1, h2⟩ => ⟨?_, h2⟩
  cases hp : pOk n d k j
  · unfold pOk at hp
    rw [if_neg (of_decide_eq_false hp)] at h1
    exact h1
  · unfold pOk at hp
    rw [if_pos (of_decide_eq_true hp)] at h1
    exact h1
theorem ceilV_mono {a b D : Int} (hD : 0 < D) (h : a ≤ b) : ceilV a D ≤ ceilV b D := by
  unfold ceilV; exact Int.ediv_le_ediv hD (by omega)
theorem twiV_mono {n d p q : Int} (hp : posV n d = true) (h : p ≤ q) : twiV n d p ≤ twiV n d q := by
  obtain ⟨n1, n2, d1, d2⟩ := posV_bd hp
  unfold twiV
  exact ceilV_mono (by omega) (Int.mul_le_mul_of_nonneg_left h (by omega))
theorem mostV_mono {k q : Int} (h0 : 0 ≤ k) (h : k ≤ q) (h2 : q ≤ 512) : mostV k ≤ mostV q := by
  obtain ⟨q1, q2, q3⟩ := most_small (k := q) (by omega) h2
  have e : mostV q * (65536 - q) ≤ mostV q * (65536 - k) := Int.mul_le_mul_of_nonneg_left (by omega) q1
  have hb : 0 < 65536 - k := by omega
  show (65536 * k + (65536 - k) - 1) / (65536 - k) ≤ mostV q
  have : (65536 * k + (65536 - k) - 1) / (65536 - k) < mostV q + 1 := Int.ediv_lt_of_lt_mul hb (by rw [Int.add_mul]; omega)
  omega
theorem dec_ok {n d k j : Int} (hp : posV n d = true) (k1 : 0 ≤ k) (k2 : k ≤ 512) (j1 : 0 ≤ j) (j2 : j ≤ 512) : decV n d k j = true := decV_true.2 ⟨hp, ⟨by omega, by omega⟩, by omega, by omega⟩
theorem chk_ok {n d k j m c g s : Int} (hp : posV n d = true) (k1 : 0 ≤ k) (k2 : k ≤ 512) (j1 : 0 ≤ j) (j2 : j ≤ 512) (c1 : 0 ≤ c) (c2 : c ≤ 65536) (g1 : 1 ≤ g) (g2 : g ≤ 4096) (m1 : 0 ≤ m) (m2 : m ≤ 4096) (hm : 65536 * k ≤ m * (65536 - k)) (s1 : 0 ≤ s) (s2 : s ≤ 65536) : chkV 0 c g m n d k j s = 0 := by
  unfold chkV
  rw [if_pos ⟨ctlV_true.2 ⟨by omega, by omega, by omega, by omega⟩, dec_ok hp k1 k2 j1 j2, s1, s2⟩, if_neg (by omega)]
theorem bnd_eq {n d k j m c g s : Int} (h : chkV 0 c g m n d k j s = 0) : bndV 0 c g m n d k j s = (max s (c + ceilV m g) + twiV n d (k + m) + 2 * j + 2, 0) := by unfold bndV; rw [if_pos h]
theorem dem_eq {n d k j m c g : Int} (h : chkV 0 c g m n d k j 0 = 0) : demV 0 c g m n d k j = (ceilV n d + twiV n d (k + m) + 2 * j + 3, 0) := by unfold demV; rw [if_pos h]
theorem plan_mono {n d k q j i : Int} (hp : posV n d = true) (k1 : 0 ≤ k) (kq : k ≤ q) (q2 : q ≤ 512) (j1 : 0 ≤ j) (ji : j ≤ i) (i2 : i ≤ 512) (h1 : pOk n d k j = true) (h2 : pOk n d q i = true) :
    pT n d k j ≤ pT n d q i ∧ pC n d k j ≤ pC n d q i ∧ mostV k ≤ mostV q := by
  have hm := mostV_mono k1 kq q2
  obtain ⟨a1, a2, a3⟩ := most_small k1 (by omega)
  obtain ⟨b1, b2, b3⟩ := most_small (k := q) (by omega) q2
  have s1 := (of_decide_eq_true h1).1
  have s2 := (of_decide_eq_true h2).1
  have t1 := twi_bd hp k1 (by omega)
  have t2 := twi_bd hp (show 0 ≤ q by omega) (by omega)
  have u0 := twiV_mono hp kq
  have u1 := twiV_mono hp (show k + mostV k ≤ q + mostV q by omega)
  have u2 : ceilV (mostV k) 9 ≤ ceilV (mostV q) 9 := ceilV_mono (by omega) hm
  have e1 := bnd_eq (chk_ok (c := 4) (g := 9) (s := twiV n d k + j + 1) hp k1 (by omega) j1 (by omega) (by omega) (by omega) (by omega) (by omega) a1 (by omega) a3 (by omega) s1)
  have e2 := bnd_eq (chk_ok (c := 4) (g := 9) (s := twiV n d q + i + 1) hp (show 0 ≤ q by omega) q2 (show 0 ≤ i by omega) i2 (by omega) (by omega) (by omega) (by omega) b1 (by omega) b3 (by omega) s2)
  have e3 := dem_eq (chk_ok (c := 4) (g := 9) (s := 0) hp k1 (by omega) j1 (by omega) (by omega) (by omega) (by omega) (by omega) a1 (by omega) a3 (by omega) (by omega))
  have e4 := dem_eq (chk_ok (c := 4) (g := 9) (s := 0) hp (show 0 ≤ q by omega) q2 (show 0 ≤ i by omega) i2 (by omega) (by omega) (by omega) (by omega) b1 (by omega) b3 (by omega) (by omega))
  unfold pT pC
  rw [e1, e2, e3, e4]
  refine ⟨?_, ?_, hm⟩
  · show ceilV n d + twiV n d (k + mostV k) + 2 * j + 3 + (max (twiV n d k + j + 1) (4 + ceilV (mostV k) 9) + twiV n d (k + mostV k) + 2 * j + 2) ≤ ceilV n d + twiV n d (q + mostV q) + 2 * i + 3 + (max (twiV n d q + i + 1) (4 + ceilV (mostV q) 9) + twiV n d (q + mostV q) + 2 * i + 2)
    omega
  · show ceilV n d + twiV n d (k + mostV k) + 2 * j + 3 + (max (twiV n d k + j + 1) (4 + ceilV (mostV k) 9) + twiV n d (k + mostV k) + 2 * j + 2) + (max (twiV n d k + j + 1) (4 + ceilV (mostV k) 9) + twiV n d (k + mostV k) + 2 * j + 2) ≤ ceilV n d + twiV n d (q + mostV q) + 2 * i + 3 + (max (twiV n d q + i + 1) (4 + ceilV (mostV q) 9) + twiV n d (q + mostV q) + 2 * i + 2) + (max (twiV n d q + i + 1) (4 + ceilV (mostV q) 9) + twiV n d (q + mostV q) + 2 * i + 2)
    omega
set_option maxRecDepth 100000 in
set_option maxHeartbeats 16000000 in
theorem controlWeaker_walk (a : Option Addr) (len cap : Nat) (l : List Int) (k j n : Int) (w : World) (hs : Sl .u8 w a len cap l) (hk : 0 ≤ k ∧ k ≤ 255) (hj : 0 ≤ j ∧ j ≤ 255) (hn : 0 ≤ n ∧ n ≤ 255) :
    Calls Try.prog 8 #[.slice a len cap, .int .u8 k, .int .u8 j, .int .u8 n] w fun e w' => e = .returned (.bool true) ∧ Below w.heap.size w w' := by
  have HS := hid hs
  clear hs
  go_enter Try.func8, Try.ntmps8
  go_wp2_with (first
    | (go_at_call 13; (with_reducible refine (sane18_any _).mono ?_); rintro e w1 ⟨rfl, hb⟩; have HB := hid hb; clear hb)
    | (go_at_call 15; (with_reducible refine (new_any a len cap l _ (HS.out.below (HB.out))).mono ?_); rintro e w2 ⟨d, rfl, hd0, hdk, hb⟩; have HK := hid hdk; have HB2 := hid hb; clear hdk hb)
    | (go_at_call 14; (with_reducible refine (made18_any _ d HK.out).mono ?_); rintro e w3 ⟨⟨t0, c0, g0, m0, pn, pd, k0, j0, rfl, _, _, _, _, hper, _, _, _⟩, hdk, hbt⟩; have HB3 := hid hbt; have HP := hid (per_pos hper); clear hper hdk hbt))
  have h3 : Below w.heap.size w w3 := by
    have h1 := HB.out
    have h2 := (HB2.out).mono h1.size
    exact (h1.trans h2).trans (HB3.out.below (Nat.le_trans h1.size hd0) (Nat.le_trans h1.size HB2.out.size))
  obtain ⟨k1, k2⟩ := hk
  obtain ⟨j1, j2⟩ := hj
  obtain ⟨n1, n2⟩ := hn
  have hp := HP.out
  have b1 := hid (fun w => bound_any 0 3 5 2000 pn pd k j n w)
  have b2 := hid (fun w => bound_any 0 3 5 2000 pn pd (k + n) j n w)
  have b3 := hid (fun w => bound_any 0 3 5 2000 pn pd k (j + n) (2 * n) w)
  have d1 := hid (fun w => demand_any 0 3 5 2000 pn pd k j w)
  have d2 := hid (fun w => demand_any 0 3 5 2000 pn pd (k + n) (j + n) w)
  have p1 := hid (fun w => plan_six pn pd k j (dec_ok hp k1 (by omega) j1 (by omega)) (by omega) w)
  have p2 := hid (fun w => plan_six pn pd (k + n) (j + n) (dec_ok hp (by omega) (by omega) (by omega) (by omega)) (by omega) w)
  rw [bnd_eq (chk_ok (c := 3) (g := 5) (m := 2000) (s := n) hp k1 (by omega) j1 (by omega) (by omega) (by omega) (by omega) (by omega) (by omega) (by omega) (by omega) (by omega) (by omega))] at b1
  rw [bnd_eq (chk_ok (c := 3) (g := 5) (m := 2000) (s := n) hp (show 0 ≤ k + n by omega) (by omega) j1 (by omega) (by omega) (by omega) (by omega) (by omega) (by omega) (by omega) (by omega) (by omega) (by omega))] at b2
  rw [bnd_eq (chk_ok (c := 3) (g := 5) (m := 2000) (s := 2 * n) hp k1 (by omega) (show 0 ≤ j + n by omega) (by omega) (by omega) (by omega) (by omega) (by omega) (by omega) (by omega) (by omega) (by omega) (by omega))] at b3
  rw [dem_eq (chk_ok (c := 3) (g := 5) (m := 2000) (s := 0) hp k1 (by omega) j1 (by omega) (by omega) (by omega) (by omega) (by omega) (by omega) (by omega) (by omega) (by omega) (by omega))] at d1
  rw [dem_eq (chk_ok (c := 3) (g := 5) (m := 2000) (s := 0) hp (show 0 ≤ k + n by omega) (by omega) (show 0 ≤ j + n by omega) (by omega) (by omega) (by omega) (by omega) (by omega) (by omega) (by omega) (by omega) (by omega) (by omega))] at d2
  have tw := twiV_mono hp (show k + 2000 ≤ k + n + 2000 by omega)
  have a12 : max n (3 + ceilV 2000 5) + twiV pn pd (k + 2000) + 2 * j + 2 ≤ max n (3 + ceilV 2000 5) + twiV pn pd (k + n + 2000) + 2 * j + 2 := by omega
  have a13 : max n (3 + ceilV 2000 5) + twiV pn pd (k + 2000) + 2 * j + 2 ≤ max (2 * n) (3 + ceilV 2000 5) + twiV pn pd (k + 2000) + 2 * (j + n) + 2 := by omega
  have u12 : ceilV pn pd + twiV pn pd (k + 2000) + 2 * j + 3 ≤ ceilV pn pd + twiV pn pd (k + n + 2000) + 2 * (j + n) + 3 := by omega
  have hw : sel (pOk pn pd k j) 0 3 = 0 → sel (pOk pn pd (k + n) (j + n)) 0 3 = 0 → sel (pOk pn pd k j) (pT pn pd k j) 0 ≤ sel (pOk pn pd (k + n) (j + n)) (pT pn pd (k + n) (j + n)) 0 ∧ sel (pOk pn pd k j) (pC pn pd k j) 0 ≤ sel (pOk pn pd (k + n) (j + n)) (pC pn pd (k + n) (j + n)) 0 ∧ sel (pOk pn pd k j) (mostV k) 0 ≤ sel (pOk pn pd (k + n) (j + n)) (mostV (k + n)) 0 := by
    intro z1 z2
    cases o1 : pOk pn pd k j
    · rw [o1] at z1; exact absurd z1 (by decide)
    · cases o2 : pOk pn pd (k + n) (j + n)
      · rw [o2] at z2; exact absurd z2 (by decide)
      · exact plan_mono hp k1 (by omega) (by omega) j1 (by omega) (by omega) o1 o2
  generalize max n (3 + ceilV 2000 5) + twiV pn pd (k + 2000) + 2 * j + 2 = A1 at *
  generalize max n (3 + ceilV 2000 5) + twiV pn pd (k + n + 2000) + 2 * j + 2 = A2 at *
  generalize max (2 * n) (3 + ceilV 2000 5) + twiV pn pd (k + 2000) + 2 * (j + n) + 2 = A3 at *
  generalize ceilV pn pd + twiV pn pd (k + 2000) + 2 * j + 3 = U1 at *
  generalize ceilV pn pd + twiV pn pd (k + n + 2000) + 2 * (j + n) + 3 = U2 at *
  generalize sel (pOk pn pd k j) 0 3 = E1 at *
  generalize sel (pOk pn pd (k + n) (j + n)) 0 3 = E2 at *
  generalize sel (pOk pn pd k j) (pT pn pd k j) 0 = T1 at *
  generalize sel (pOk pn pd (k + n) (j + n)) (pT pn pd (k + n) (j + n)) 0 = T2 at *
  generalize sel (pOk pn pd k j) (pC pn pd k j) 0 = C1 at *
  generalize sel (pOk pn pd (k + n) (j + n)) (pC pn pd (k + n) (j + n)) 0 = C2 at *
  generalize sel (pOk pn pd k j) (mostV k) 0 = M1 at *
  generalize sel (pOk pn pd (k + n) (j + n)) (mostV (k + n)) 0 = M2 at *
  generalize sel (pOk pn pd k j) 4 0 = F1 at *
  generalize sel (pOk pn pd (k + n) (j + n)) 4 0 = F2 at *
  generalize sel (pOk pn pd k j) 9 0 = G1 at *
  generalize sel (pOk pn pd (k + n) (j + n)) 9 0 = G2 at *
  have HW := hid hw
  clear hw tw
  have hl0 := Lv.alloc (vs := [.int .i64 0, .int .i64 3, .int .i64 5, .int .i64 2000]) (T := 23) (Lv.alloc (vs := [.int .i64 pn, .int .i64 pd]) (T := 27) (Lv.alloc (vs := [.int .i64 t0, .int .i64 c0, .int .i64 g0, .int .i64 m0]) (T := 23) (show Lv w w3 [] from ⟨h3, trivial⟩)))
  simp only [World.size_alloc] at hl0
  generalize ((w3.alloc (.cells #[.int .i64 t0, .int .i64 c0, .int .i64 g0, .int .i64 m0] 23)).alloc (.cells #[.int .i64 pn, .int .i64 pd] 27)).alloc (.cells #[.int .i64 0, .int .i64 3, .int .i64 5, .int .i64 2000] 23) = W4 at *
  generalize w3.heap.size = B at *
  have HL0 := hid hl0
  clear hl0
  (with_reducible refine (b1.out _).mono ?_); rintro e w4 ⟨rfl, hb⟩; have HL1 := hid (HL0.out.kept hb); clear hb HL0 b1
  have hL := HL1.out.facts
  simp only [liveAt, cellsAt, and_true, Nat.zero_add, Nat.reduceAdd, World.size_alloc] at hL
  go_wp2_with fail
  clear hL
  (with_reducible refine (b2.out _).mono ?_); rintro e w5 ⟨rfl, hb⟩; have HL2 := hid (HL1.out.kept hb); clear hb HL1 b2
  have hL := HL2.out.facts
  simp only [liveAt, cellsAt, and_true, Nat.zero_add, Nat.reduceAdd, World.size_alloc] at hL
  go_wp2_with fail
  clear hL
  (with_reducible refine (b3.out _).mono ?_); rintro e w6 ⟨rfl, hb⟩; have HL3 := hid (HL2.out.kept hb); clear hb HL2 b3
  have hL := HL3.out.facts
  simp only [liveAt, cellsAt, and_true, Nat.zero_add, Nat.reduceAdd, World.size_alloc] at hL
  go_wp2_with fail
  clear hL
  (with_reducible refine (d1.out _).mono ?_); rintro e w7 ⟨rfl, hb⟩; have HL4 := hid (HL3.out.kept hb); clear hb HL3 d1
  have hL := HL4.out.facts
  simp only [liveAt, cellsAt, and_true, Nat.zero_add, Nat.reduceAdd, World.size_alloc] at hL
  go_wp2_with fail
  clear hL
  (with_reducible refine (d2.out _).mono ?_); rintro e w8 ⟨rfl, hb⟩; have HL5 := hid (HL4.out.kept hb); clear hb HL4 d2
  have hL := HL5.out.facts
  simp only [liveAt, cellsAt, and_true, Nat.zero_add, Nat.reduceAdd, World.size_alloc] at hL
  go_wp2_with fail
  clear hL
  (with_reducible refine (p1.out _).mono ?_); rintro e w9 ⟨rfl, hb⟩; have HL6 := hid (Lv.alloc (vs := [.int .i64 T1, .int .i64 F1, .int .i64 G1, .int .i64 M1]) (T := 23) (HL5.out.kept hb)); clear hb HL5 p1
  have hL := HL6.out.facts
  simp only [liveAt, cellsAt, and_true, Nat.zero_add, Nat.reduceAdd, World.size_alloc] at hL
  go_wp2_with fail
  clear hL
  (with_reducible refine (p2.out _).mono ?_); rintro e w10 ⟨rfl, hb⟩; have HL7 := hid (Lv.alloc (vs := [.int .i64 T2, .int .i64 F2, .int .i64 G2, .int .i64 M2]) (T := 23) (HL6.out.kept hb)); clear hb HL6 p2
  have hL := HL7.out.facts
  simp only [liveAt, cellsAt, and_true, Nat.zero_add, Nat.reduceAdd, World.size_alloc] at hL
  by_cases he1 : E1 = 0
  · by_cases he2 : E2 = 0
    · obtain ⟨y1, y2, y3⟩ := HW.out he1 he2
      subst he1
      subst he2
      go_wp2
      all_goals go_ret
      all_goals first
        | exact ⟨rfl, HL7.out.below⟩
        | (exfalso; simp_all; omega)
        | trace_state
    · go_wp2
      all_goals go_ret
      all_goals first
        | exact ⟨rfl, HL7.out.below⟩
        | (exfalso; simp_all; omega)
        | trace_state
  · go_wp2
    all_goals go_ret
    all_goals first
      | exact ⟨rfl, HL7.out.below⟩
      | (exfalso; simp_all; omega)
      | trace_state
end Go.Proofs.Ythmkkanjjlechaa
