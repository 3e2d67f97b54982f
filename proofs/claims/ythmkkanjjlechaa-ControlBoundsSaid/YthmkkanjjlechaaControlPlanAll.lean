/- Plans, for whatever operands: no statement is proved here. -/
import Derived.Test.YthmkkanjjlechaaControlPlanning
import Derived.Deep.RegionHeld3
namespace Go.Proofs.Ythmkkanjjlechaa
open Go.ChangeShapes Go.WideShapes Go.ChangeAt Go.RowKit
set_option linter.unusedVariables false
set_option linter.unusedSimpArgs false

def planB (n d k j c g : Int) : Int := (bndV 0 c g (mostV k) n d k j (twiV n d k + j + 1)).1
def planD (n d k j c g : Int) : Int := (demV 0 c g (mostV k) n d k j).1
/-- the error of a plan -/
def planE (n d k j c g : Int) : Int := if decV n d k j = true ∧ (0 ≤ c ∧ c ≤ 65536) ∧ 1 ≤ g ∧ g ≤ 4096 then (if 4096 < mostV k then 2 else if 65536 < twiV n d k + j + 1 then 3 else if 65536 < planD n d k j c g + planB n d k j c g + planB n d k j c g then 3 else 0) else 1
/-- the six numbers of a plan -/
def planV (n d k j c g : Int) : Int × Int × Int × Int × Int × Int := if planE n d k j c g = 0 then (planD n d k j c g + planB n d k j c g, c, g, mostV k, planD n d k j c g + planB n d k j c g + planB n d k j c g, 0) else (0, 0, 0, 0, 0, planE n d k j c g)
theorem bnd_bd2 {n d k j m s c g : Int} : 0 ≤ (bndV 0 c g m n d k j s).1 ∧ (bndV 0 c g m n d k j s).1 ≤ 1000000 := by
  unfold bndV
  split
  · rename_i h
    obtain ⟨hc, hp, ⟨k1, k2⟩, ⟨j1, j2⟩, s1, s2⟩ := chk_bd h
    obtain ⟨_, ⟨c1, c2⟩, ⟨g1, g2⟩, m1, m2⟩ := ctlV_true.1 hc
    have ht := twi_bd hp (show 0 ≤ k + m by omega) (by omega)
    have hc' : 0 ≤ ceilV m g ∧ ceilV m g ≤ m := ceil_bd m1 g1
    show 0 ≤ max s (c + ceilV m g) + twiV n d (k + m) + 2 * j + 2 ∧ max s (c + ceilV m g) + twiV n d (k + m) + 2 * j + 2 ≤ 1000000
    omega
  · exact ⟨by show (0 : Int) ≤ 0; omega, by show (0 : Int) ≤ 1000000; omega⟩
theorem dem_bd2 {n d k j m c g : Int} : 0 ≤ (demV 0 c g m n d k j).1 ∧ (demV 0 c g m n d k j).1 ≤ 1000000 := by
  unfold demV
  split
  · rename_i h
    obtain ⟨hc, hp, ⟨k1, k2⟩, ⟨j1, j2⟩, s1, s2⟩ := chk_bd h
    obtain ⟨_, ⟨c1, c2⟩, ⟨g1, g2⟩, m1, m2⟩ := ctlV_true.1 hc
    have ht := twi_bd hp (show 0 ≤ k + m by omega) (by omega)
    have hc := ceilR_bd hp
    show 0 ≤ ceilV n d + twiV n d (k + m) + 2 * j + 3 ∧ ceilV n d + twiV n d (k + m) + 2 * j + 3 ≤ 1000000
    omega
  · exact ⟨by show (0 : Int) ≤ 0; omega, by show (0 : Int) ≤ 1000000; omega⟩
theorem most_bd2 {k : Int} (h1 : 0 ≤ k) (h2 : k ≤ 4096) : 0 ≤ mostV k ∧ mostV k ≤ 268435456 := by
  have h := ceil_bd (a := 65536 * k) (b := 65536 - k) (by omega) (by omega)
  have : 0 ≤ mostV k ∧ mostV k ≤ 65536 * k := h
  omega
theorem rstart_any (n d k j : Int) (hp : posV n d = true) (k1 : 0 ≤ k) (k2 : k ≤ 4096) (j1 : 0 ≤ j) (j2 : j ≤ 65536) (w : World) :
    Calls Try.prog 47 #[.agg #[.int .i64 n, .int .i64 d], .int .i64 k, .int .i64 j] w fun e w' => e = .returned (.int .i64 (twiV n d k + j + 1)) ∧ Below w.heap.size w w' := by
  have c1 := hid (fun w => sway_any n d k hp k1 (by omega) w)
  obtain ⟨t1, t2⟩ := twi_bd hp k1 (by omega)
  generalize twiV n d k = Y at *
  have H0 := hid (Lv.alloc (vs := [.int .i64 n, .int .i64 d]) (T := 27) (Lv.start w))
  clear hp
  go_enter Try.func47, Try.ntmps47
  go_wp2_with fail
  (with_reducible refine (c1.out _).mono ?_); rintro e w1 ⟨rfl, hb⟩; have H1 := hid (H0.out.kept hb); clear hb
  go_wp2
  go_ret
  exact ⟨rfl, H1.out.below⟩
set_option maxRecDepth 100000 in
set_option maxHeartbeats 16000000 in
theorem plan_all (n d k j c g : Int) (w : World) :
    Calls Try.prog 24 #[.agg #[.int .i64 n, .int .i64 d], .int .i64 k, .int .i64 j, .int .i64 c, .int .i64 g] w fun e w' => e = .returned (.tuple #[.agg #[.int .i64 (planV n d k j c g).1, .int .i64 (planV n d k j c g).2.1, .int .i64 (planV n d k j c g).2.2.1, .int .i64 (planV n d k j c g).2.2.2.1], .int .i64 (planV n d k j c g).2.2.2.2.1, .int .i64 (planV n d k j c g).2.2.2.2.2]) ∧ Below w.heap.size w w' := by
  have c1 := hid (fun w => declares_any n d k j w)
  have wc := hid (fun w => within_any c 0 65536 w)
  have wg := hid (fun w => within_any g 1 4096 w)
  by_cases hd : decV n d k j = true
  · by_cases hcg : (0 ≤ c ∧ c ≤ 65536) ∧ 1 ≤ g ∧ g ≤ 4096
    · obtain ⟨⟨c0, c9⟩, g0, g9⟩ := hcg
      obtain ⟨hp, ⟨k1, k2⟩, j1, j2⟩ := decV_true.1 hd
      obtain ⟨m1, m2⟩ := most_bd2 k1 k2
      obtain ⟨t1, t2⟩ := twi_bd hp k1 (by omega)
      have eE : planE n d k j c g = if 4096 < mostV k then 2 else if 65536 < twiV n d k + j + 1 then 3 else if 65536 < planD n d k j c g + planB n d k j c g + planB n d k j c g then 3 else 0 := by
        unfold planE; rw [if_pos ⟨hd, ⟨c0, c9⟩, g0, g9⟩]
      rw [hd] at c1
      rw [show decide (0 ≤ c ∧ c ≤ 65536) = true from decide_eq_true ⟨c0, c9⟩] at wc
      rw [show decide (1 ≤ g ∧ g ≤ 4096) = true from decide_eq_true ⟨g0, g9⟩] at wg
      have c2 := hid (fun w => ceil_any (65536 * k) (65536 - k) (by omega) (by omega) (by omega) (by omega) w)
      have e1 : ceilV (65536 * k) (65536 - k) = mostV k := rfl
      rw [e1] at c2
      by_cases hm : 4096 < mostV k
      · rw [if_pos hm] at eE
        rw [show planV n d k j c g = (0, 0, 0, 0, 0, 2) from by unfold planV; rw [eE, if_neg (by omega)]]
        generalize mostV k = M at *
        clear eE hd hp e1
        go_enter Try.func24, Try.ntmps24
        go_wp2_with fail
        (with_reducible refine (c1.out _).mono ?_); rintro e w1 ⟨rfl, hb⟩; have HL := hid (Lv.kept (Lv.alloc (vs := [.int .i64 0, .int .i64 0, .int .i64 0, .int .i64 0]) (T := 23) (Lv.alloc (vs := [.int .i64 n, .int .i64 d]) (T := 27) (Lv.start w))) hb); clear hb
        have hL := HL.out.facts
        simp only [liveAt, cellsAt, and_true, Nat.zero_add, Nat.reduceAdd, World.size_alloc] at hL
        have hbl := HL.out.below
        go_wp2_with (first
      | (go_at_call 39; (with_reducible refine (wc.out _).mono ?_); rintro e w2 ⟨rfl, rfl⟩)
      | (go_at_call 39; (with_reducible refine (wg.out _).mono ?_); rintro e w2 ⟨rfl, rfl⟩)
          | (go_at_call 41; (with_reducible refine (c2.out _).mono ?_); rintro e w2 ⟨rfl, rfl⟩))
        all_goals (refine bodyPost_ret (by simp [results, Try.results24, go_sem, *]; try rfl) rfl ?_; exact ⟨rfl, by go_grown⟩)
      · rw [if_neg hm] at eE
        by_cases hs : 65536 < twiV n d k + j + 1
        · rw [if_pos hs] at eE
          rw [show planV n d k j c g = (0, 0, 0, 0, 0, 3) from by unfold planV; rw [eE, if_neg (by omega)]]
          have c3 := hid (fun w => twice_any n d k hp k1 (by omega) w)
          generalize mostV k = M at *
          generalize twiV n d k = Y at *
          clear eE hd hp e1
          go_enter Try.func24, Try.ntmps24
          go_wp2_with fail
          (with_reducible refine (c1.out _).mono ?_); rintro e w1 ⟨rfl, hb⟩; have HL := hid (Lv.kept (Lv.alloc (vs := [.int .i64 0, .int .i64 0, .int .i64 0, .int .i64 0]) (T := 23) (Lv.alloc (vs := [.int .i64 n, .int .i64 d]) (T := 27) (Lv.start w))) hb); clear hb
          have hL := HL.out.facts
          simp only [liveAt, cellsAt, and_true, Nat.zero_add, Nat.reduceAdd, World.size_alloc] at hL
          have hz := HL.out.drop.lt
          have hz1 := HL.out.lt
          simp only [World.size_alloc] at hz1
          go_wp2_with (first
      | (go_at_call 39; (with_reducible refine (wc.out _).mono ?_); rintro e w2 ⟨rfl, rfl⟩)
      | (go_at_call 39; (with_reducible refine (wg.out _).mono ?_); rintro e w2 ⟨rfl, rfl⟩)
            | (go_at_call 41; (with_reducible refine (c2.out _).mono ?_); rintro e w2 ⟨rfl, rfl⟩))
          (with_reducible refine (c3.out _).mono ?_); rintro e w2 ⟨rfl, hb⟩; have HL2 := hid ((Lv.alloc (vs := [.int .i64 0, .int .i64 c, .int .i64 g, .int .i64 M]) (T := 23) HL.out).kept hb); clear hb hL
          have hL := HL2.out.facts
          simp only [liveAt, cellsAt, and_true, Nat.zero_add, Nat.reduceAdd, World.size_alloc] at hL
          have hbl := HL2.out.below
          have hz2 := HL2.out.drop.lt
          simp only [World.size_alloc] at hz2
          go_wp2_with fail
          all_goals (refine bodyPost_ret (by simp [results, Try.results24, go_sem, *]; try rfl) rfl ?_; exact ⟨rfl, by go_grown⟩)
        · rw [if_neg hs] at eE
          have c3 := hid (fun w => twice_any n d k hp k1 (by omega) w)
          have c5 := hid (fun w => bound_any 0 c g (mostV k) n d k j (twiV n d k + j + 1) w)
          have c6 := hid (fun w => demand_any 0 c g (mostV k) n d k j w)
          have hB := bnd_bd2 (n := n) (d := d) (k := k) (j := j) (m := mostV k) (s := twiV n d k + j + 1) (c := c) (g := g)
          have hD := dem_bd2 (n := n) (d := d) (k := k) (j := j) (m := mostV k) (c := c) (g := g)
          have eB : (bndV 0 c g (mostV k) n d k j (twiV n d k + j + 1)).1 = planB n d k j c g := rfl
          have eD : (demV 0 c g (mostV k) n d k j).1 = planD n d k j c g := rfl
          have eV : planV n d k j c g = if planE n d k j c g = 0 then (planD n d k j c g + planB n d k j c g, c, g, mostV k, planD n d k j c g + planB n d k j c g + planB n d k j c g, 0) else (0, 0, 0, 0, 0, planE n d k j c g) := rfl
          rw [eB] at c5 hB
          rw [eD] at c6 hD
          rw [eV, eE]
          generalize (bndV 0 c g (mostV k) n d k j (twiV n d k + j + 1)).2 = BE at *
          generalize (demV 0 c g (mostV k) n d k j).2 = DE at *
          generalize planB n d k j c g = BV at *
          generalize planD n d k j c g = DV at *
          generalize mostV k = M at *
          generalize twiV n d k = Y at *
          obtain ⟨b0, b9⟩ := hB
          obtain ⟨d0, d9⟩ := hD
          clear eE eV eB eD hd hp e1
          by_cases hl : 65536 < DV + BV + BV
          all_goals first | (rw [if_pos hl, if_neg (by decide)]) | (rw [if_neg hl, if_pos rfl])
          all_goals go_enter Try.func24, Try.ntmps24
          all_goals go_wp2_with fail
          all_goals ((with_reducible refine (c1.out _).mono ?_); rintro e w1 ⟨rfl, hb⟩; have HL := hid (Lv.kept (Lv.alloc (vs := [.int .i64 0, .int .i64 0, .int .i64 0, .int .i64 0]) (T := 23) (Lv.alloc (vs := [.int .i64 n, .int .i64 d]) (T := 27) (Lv.start w))) hb); clear hb)
          all_goals (have hL := HL.out.facts; simp only [liveAt, cellsAt, and_true, Nat.zero_add, Nat.reduceAdd, World.size_alloc] at hL)
          all_goals have hz := HL.out.drop.lt
          all_goals have hz1 := HL.out.lt
          all_goals simp only [World.size_alloc] at hz1
          all_goals go_wp2_with (first
      | (go_at_call 39; (with_reducible refine (wc.out _).mono ?_); rintro e w2 ⟨rfl, rfl⟩)
      | (go_at_call 39; (with_reducible refine (wg.out _).mono ?_); rintro e w2 ⟨rfl, rfl⟩)
            | (go_at_call 41; (with_reducible refine (c2.out _).mono ?_); rintro e w2 ⟨rfl, rfl⟩))
          all_goals ((with_reducible refine (c3.out _).mono ?_); rintro e w2 ⟨rfl, hb⟩; have HL2 := hid ((Lv.alloc (vs := [.int .i64 0, .int .i64 c, .int .i64 g, .int .i64 M]) (T := 23) HL.out).kept hb); clear hb hL)
          all_goals (have hL := HL2.out.facts; simp only [liveAt, cellsAt, and_true, Nat.zero_add, Nat.reduceAdd, World.size_alloc] at hL)
          all_goals go_wp2_with fail
          all_goals ((with_reducible refine (c5.out _).mono ?_); rintro e w3 ⟨rfl, hb⟩; have HL3 := hid (HL2.out.kept hb); clear hb hL)
          all_goals (have hL := HL3.out.facts; simp only [liveAt, cellsAt, and_true, Nat.zero_add, Nat.reduceAdd, World.size_alloc] at hL)
          all_goals go_wp2_with fail
          all_goals ((with_reducible refine (c6.out _).mono ?_); rintro e w4 ⟨rfl, hb⟩; have HL4 := hid (HL3.out.kept hb); clear hb hL)
          all_goals (have hL := HL4.out.facts; simp only [liveAt, cellsAt, and_true, Nat.zero_add, Nat.reduceAdd, World.size_alloc] at hL)
          all_goals have hbl := HL4.out.below
          all_goals have hz2 := HL4.out.drop.lt
          all_goals have hz3 := HL4.out.lt
          all_goals simp only [World.size_alloc] at hz2
          all_goals go_wp2_with fail
          all_goals (refine bodyPost_ret (by simp [results, Try.results24, go_sem, *]; try rfl) rfl ?_; exact ⟨rfl, by go_grown⟩)
    · rw [show planV n d k j c g = (0, 0, 0, 0, 0, 1) from by
        have : planE n d k j c g = 1 := by unfold planE; rw [if_neg (fun h => hcg h.2)]
        unfold planV; rw [this, if_neg (by decide)]]
      rw [hd] at c1
      clear hd
      go_enter Try.func24, Try.ntmps24
      go_wp2_with fail
      (with_reducible refine (c1.out _).mono ?_); rintro e w1 ⟨rfl, hb⟩; have HL := hid (Lv.kept (Lv.alloc (vs := [.int .i64 0, .int .i64 0, .int .i64 0, .int .i64 0]) (T := 23) (Lv.alloc (vs := [.int .i64 n, .int .i64 d]) (T := 27) (Lv.start w))) hb); clear hb
      have hL := HL.out.facts
      simp only [liveAt, cellsAt, and_true, Nat.zero_add, Nat.reduceAdd, World.size_alloc] at hL
      have hbl := HL.out.below
      have HX := hid hcg
      clear hcg
      go_wp2_with (first
      | (go_at_call 39; (with_reducible refine (wc.out _).mono ?_); rintro e w2 ⟨rfl, rfl⟩)
      | (go_at_call 39; (with_reducible refine (wg.out _).mono ?_); rintro e w2 ⟨rfl, rfl⟩))
      all_goals first
        | (exfalso; apply HX.out; (try simp only [Bool.not_eq_false', Bool.not_eq_true', decide_eq_true_eq, decide_eq_false_iff_not] at *); omega)
        | (refine bodyPost_ret (by simp [results, Try.results24, go_sem, *]; try rfl) rfl ?_; exact ⟨rfl, by go_grown⟩)
        | (exfalso; apply HX.out; simp_all; omega)
  · rw [show planV n d k j c g = (0, 0, 0, 0, 0, 1) from by
      have : planE n d k j c g = 1 := by unfold planE; rw [if_neg (fun h => hd h.1)]
      unfold planV; rw [this, if_neg (by decide)]]
    rw [show decV n d k j = false by simpa using hd] at c1
    clear hd
    go_enter Try.func24, Try.ntmps24
    go_wp2_with fail
    (with_reducible refine (c1.out _).mono ?_); rintro e w1 ⟨rfl, hb⟩; have HL := hid (Lv.kept (Lv.alloc (vs := [.int .i64 0, .int .i64 0, .int .i64 0, .int .i64 0]) (T := 23) (Lv.alloc (vs := [.int .i64 n, .int .i64 d]) (T := 27) (Lv.start w))) hb); clear hb
    have hL := HL.out.facts
    simp only [liveAt, cellsAt, and_true, Nat.zero_add, Nat.reduceAdd, World.size_alloc] at hL
    have hbl := HL.out.below
    go_wp2
    all_goals (refine bodyPost_ret (by simp [results, Try.results24, go_sem, *]; try rfl) rfl ?_; exact ⟨rfl, by go_grown⟩)
end Go.Proofs.Ythmkkanjjlechaa
