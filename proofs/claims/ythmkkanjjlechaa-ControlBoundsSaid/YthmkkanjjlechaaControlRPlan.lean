/- Plans of the reference, for whatever operands: no statement is proved here. -/
import Derived.Test.YthmkkanjjlechaaControlPlanAll
namespace Go.Proofs.Ythmkkanjjlechaa
open Go.ChangeShapes Go.WideShapes Go.ChangeAt Go.RowKit
set_option linter.unusedVariables false
set_option linter.unusedSimpArgs false

theorem Lv.set2 {W w : World} {b i : Nat} {v : Value} {vs : List Value} {T : TypeId} {L : List (Nat × List Value × TypeId)} (h : Lv W w ((b, vs, T) :: L)) (hb : W.heap.size ≤ b) (hL : ∀ x ∈ L, x.1 ≠ b) : Lv W (w.setCell ⟨b, i, none⟩ v) ((b, vs.set i v, T) :: L) := by
  have hbk : ∀ k, k < w.heap.size → k ≠ b → (w.setCell ⟨b, i, none⟩ v).heap[k]? = w.heap[k]? := fun k _ hk => Below.heap_setCell _ _ _ _ hk
  refine ⟨h.below.setCell (by show W.heap.size ≤ b; omega) _, ?_, h.live.2.turn hbk hL⟩
  have := heap_setCell_same w b i vs.toArray T v h.live.1
  simpa using this
set_option maxRecDepth 100000 in
set_option maxHeartbeats 16000000 in
theorem rplan_all (n d k j c g : Int) (w : World) :
    Calls Try.prog 25 #[.agg #[.int .i64 n, .int .i64 d], .int .i64 k, .int .i64 j, .int .i64 c, .int .i64 g] w fun e w' => e = .returned (.tuple #[.agg #[.int .i64 (planV n d k j c g).1, .int .i64 (planV n d k j c g).2.1, .int .i64 (planV n d k j c g).2.2.1, .int .i64 (planV n d k j c g).2.2.2.1], .int .i64 (planV n d k j c g).2.2.2.2.1, .int .i64 (planV n d k j c g).2.2.2.2.2]) ∧ Below w.heap.size w w' := by
  have c1 := hid (fun w => given_any n d k j w)
  by_cases hd : decV n d k j = true
  · by_cases hcg : (0 ≤ c ∧ c ≤ 65536) ∧ 1 ≤ g ∧ g ≤ 4096
    · obtain ⟨⟨c0, c9⟩, g0, g9⟩ := hcg
      obtain ⟨hp, ⟨k1, k2⟩, j1, j2⟩ := decV_true.1 hd
      obtain ⟨m1, m2⟩ := most_bd2 k1 k2
      obtain ⟨t1, t2⟩ := twi_bd hp k1 (by omega)
      have eE : planE n d k j c g = if 4096 < mostV k then 2 else if 65536 < twiV n d k + j + 1 then 3 else if 65536 < planD n d k j c g + planB n d k j c g + planB n d k j c g then 3 else 0 := by
        unfold planE; rw [if_pos ⟨hd, ⟨c0, c9⟩, g0, g9⟩]
      rw [hd] at c1
      have z1 : decide (c < 0) = false := decide_eq_false (by omega)
      have z2 : decide (65536 < c) = false := decide_eq_false (by omega)
      have z3 : decide (g < 1) = false := decide_eq_false (by omega)
      have z4 : decide (4096 < g) = false := decide_eq_false (by omega)
      have c2 := hid (fun w => up_any (65536 * k) (65536 - k) (by omega) (by omega) (by omega) (by omega) w)
      have e1 : ceilV (65536 * k) (65536 - k) = mostV k := rfl
      rw [e1] at c2
      by_cases hm : 4096 < mostV k
      · rw [if_pos hm] at eE
        rw [show planV n d k j c g = (0, 0, 0, 0, 0, 2) from by unfold planV; rw [eE, if_neg (by omega)]]
        generalize mostV k = M at *
        clear eE hd hp e1
        go_enter Try.func25, Try.ntmps25
        go_wp2_with fail
        (with_reducible refine (c1.out _).mono ?_); rintro e w1 ⟨rfl, hb⟩; have HL := hid (Lv.kept (Lv.alloc (vs := [.int .i64 0, .int .i64 0, .int .i64 0, .int .i64 0]) (T := 23) (Lv.alloc (vs := [.int .i64 n, .int .i64 d]) (T := 27) (Lv.start w))) hb); clear hb
        have hL := HL.out.facts
        simp only [liveAt, cellsAt, and_true, Nat.zero_add, Nat.reduceAdd, World.size_alloc] at hL
        have hz := HL.out.drop.lt
        have hz1 := HL.out.lt
        simp only [World.size_alloc] at hz1
        have hbl := HL.out.below
        go_wp2_with (first
          | (go_at_call 44; (with_reducible refine (c2.out _).mono ?_); rintro e w2 ⟨rfl, rfl⟩))
        all_goals (refine bodyPost_ret (by simp [results, Try.results25, go_sem, *]; try rfl) rfl ?_; exact ⟨rfl, by go_grown⟩)
      · rw [if_neg hm] at eE
        by_cases hs : 65536 < twiV n d k + j + 1
        · rw [if_pos hs] at eE
          rw [show planV n d k j c g = (0, 0, 0, 0, 0, 3) from by unfold planV; rw [eE, if_neg (by omega)]]
          have c3 := hid (fun w => rstart_any n d k j hp k1 k2 j1 j2 w)
          generalize mostV k = M at *
          generalize twiV n d k = Y at *
          clear eE hd hp e1
          go_enter Try.func25, Try.ntmps25
          go_wp2_with fail
          (with_reducible refine (c1.out _).mono ?_); rintro e w1 ⟨rfl, hb⟩; have HL := hid (Lv.kept (Lv.alloc (vs := [.int .i64 0, .int .i64 0, .int .i64 0, .int .i64 0]) (T := 23) (Lv.alloc (vs := [.int .i64 n, .int .i64 d]) (T := 27) (Lv.start w))) hb); clear hb
          have hL := HL.out.facts
          simp only [liveAt, cellsAt, and_true, Nat.zero_add, Nat.reduceAdd, World.size_alloc] at hL
          have hz := HL.out.drop.lt
          have hz1 := HL.out.lt
          simp only [World.size_alloc] at hz1
          go_wp2_with (first
            | (go_at_call 44; (with_reducible refine (c2.out _).mono ?_); rintro e w2 ⟨rfl, rfl⟩))
          (with_reducible refine (c3.out _).mono ?_); rintro e w2 ⟨rfl, hb⟩; have HL2 := hid ((Lv.alloc (vs := [.int .i64 0, .int .i64 c, .int .i64 g, .int .i64 M]) (T := 23) HL.out).kept hb); clear hb hL
          have hL := HL2.out.facts
          simp only [liveAt, cellsAt, and_true, Nat.zero_add, Nat.reduceAdd, World.size_alloc] at hL
          have hbl := HL2.out.below
          have hz2 := HL2.out.drop.lt
          simp only [World.size_alloc] at hz2
          go_wp2_with fail
          all_goals (refine bodyPost_ret (by simp [results, Try.results25, go_sem, *]; try rfl) rfl ?_; exact ⟨rfl, by go_grown⟩)
        · rw [if_neg hs] at eE
          have c3 := hid (fun w => rstart_any n d k j hp k1 k2 j1 j2 w)
          have c5 := hid (fun w => rbound_any 0 c g (mostV k) n d k j (twiV n d k + j + 1) w)
          have c6 := hid (fun w => rdemand_any 0 c g (mostV k) n d k j w)
          have hB := bnd_bd2 (n := n) (d := d) (k := k) (j := j) (m := mostV k) (s := twiV n d k + j + 1) (c := c) (g := g)
          have hD := dem_bd2 (n := n) (d := d) (k := k) (j := j) (m := mostV k) (c := c) (g := g)
          have eB : (bndV 0 c g (mostV k) n d k j (twiV n d k + j + 1)).1 = planB n d k j c g := rfl
          have eD : (demV 0 c g (mostV k) n d k j).1 = planD n d k j c g := rfl
          have eV : planV n d k j c g = if planE n d k j c g = 0 then (planD n d k j c g + planB n d k j c g, c, g, mostV k, planD n d k j c g + planB n d k j c g + planB n d k j c g, 0) else (0, 0, 0, 0, 0, planE n d k j c g) := rfl
          rw [eB] at c5 hB
          rw [eD] at c6 hD
          rw [eV, eE]
          generalize (bndV 0 c g (mostV k) n d k j (twiV n d k + j + 1)).2 = BE at *
          generalize (demV 0 c g (mostV k) n d k j).2 = DE at *
          generalize planB n d k j c g = BV at *
          generalize planD n d k j c g = DV at *
          generalize mostV k = M at *
          generalize twiV n d k = Y at *
          obtain ⟨b0, b9⟩ := hB
          obtain ⟨d0, d9⟩ := hD
          clear eE eV eB eD hd hp e1
          by_cases hl : 65536 < DV + BV + BV
          all_goals first | (rw [if_pos hl, if_neg (by decide)]) | (rw [if_neg hl, if_pos rfl])
          all_goals go_enter Try.func25, Try.ntmps25
          all_goals go_wp2_with fail
          all_goals ((with_reducible refine (c1.out _).mono ?_); rintro e w1 ⟨rfl, hb⟩; have HL := hid (Lv.kept (Lv.alloc (vs := [.int .i64 0, .int .i64 0, .int .i64 0, .int .i64 0]) (T := 23) (Lv.alloc (vs := [.int .i64 n, .int .i64 d]) (T := 27) (Lv.start w))) hb); clear hb)
          all_goals (have hL := HL.out.facts; simp only [liveAt, cellsAt, and_true, Nat.zero_add, Nat.reduceAdd, World.size_alloc] at hL)
          all_goals have hz := HL.out.drop.lt
          all_goals have hz1 := HL.out.lt
          all_goals simp only [World.size_alloc] at hz1
          all_goals go_wp2_with (first
            | (go_at_call 44; (with_reducible refine (c2.out _).mono ?_); rintro e w2 ⟨rfl, rfl⟩))
          all_goals ((with_reducible refine (c3.out _).mono ?_); rintro e w2 ⟨rfl, hb⟩; have HL2 := hid ((Lv.alloc (vs := [.int .i64 0, .int .i64 c, .int .i64 g, .int .i64 M]) (T := 23) HL.out).kept hb); clear hb hL)
          all_goals (have hL := HL2.out.facts; simp only [liveAt, cellsAt, and_true, Nat.zero_add, Nat.reduceAdd, World.size_alloc] at hL)
          all_goals go_wp2_with fail
          all_goals ((with_reducible refine (c5.out _).mono ?_); rintro e w3 ⟨rfl, hb⟩; have HL3 := hid (HL2.out.kept hb); clear hb hL)
          all_goals (have hL := HL3.out.facts; simp only [liveAt, cellsAt, and_true, Nat.zero_add, Nat.reduceAdd, World.size_alloc] at hL)
          all_goals go_wp2_with fail
          all_goals ((with_reducible refine (c6.out _).mono ?_); rintro e w4 ⟨rfl, hb⟩; have HL4 := hid (HL3.out.kept hb); clear hb hL)
          all_goals (have hL := HL4.out.facts; simp only [liveAt, cellsAt, and_true, Nat.zero_add, Nat.reduceAdd, World.size_alloc] at hL)
          all_goals have hbl := HL4.out.below
          all_goals have hz2 := HL4.out.drop.lt
          all_goals have hz3 := HL4.out.lt
          all_goals simp only [World.size_alloc] at hz2
          all_goals go_wp2_with fail
          all_goals first
            | (exfalso; omega)
            | (refine bodyPost_ret (by simp [results, Try.results25, go_sem, *]; try rfl) rfl ?_; exact ⟨rfl, by go_grown⟩)
            | skip
          have hle : w.heap.size ≤ w1.heap.size := by omega
          have hl5 := HL4.out.set2 (i := 0) (v := .int .i64 (DV + BV)) hle (by simp; omega)
          simp only [List.set_cons_zero, World.size_alloc] at hl5
          clear hL
          have q1 : IntKind.i64.wrap (DV + BV + BV) = DV + BV + BV := IntWalk.i64_in _ (by omega)
          generalize w4.setCell ⟨w1.heap.size, 0, none⟩ (.int .i64 (DV + BV)) = W5 at *
          have hL := hl5.facts
          simp only [liveAt, cellsAt, and_true, Nat.zero_add, Nat.reduceAdd, World.size_alloc] at hL
          have hbl5 := hl5.below
          clear hl5 HL4
          have n1 : w1.heap.size ≠ w.heap.size + 1 := by omega
          have n2 : w.heap.size + 1 ≠ w1.heap.size := by omega
          generalize w1.heap.size = E at *
          go_region_held3 (fun w' => w'.cell? ⟨E, 0, none⟩ = some (.int .i64 (DV + BV)) ∧ w'.cell? ⟨E, 1, none⟩ = some (.int .i64 c) ∧ w'.cell? ⟨E, 2, none⟩ = some (.int .i64 g) ∧ w'.cell? ⟨E, 3, none⟩ = some (.int .i64 M)) (go_keep) (fail)
          all_goals go_wp2
          all_goals (refine bodyPost_ret (by simp [results, Try.results25, go_sem, *]; try rfl) rfl ?_; exact ⟨rfl, by go_grown⟩)
    · rw [show planV n d k j c g = (0, 0, 0, 0, 0, 1) from by
        have : planE n d k j c g = 1 := by unfold planE; rw [if_neg (fun h => hcg h.2)]
        unfold planV; rw [this, if_neg (by decide)]]
      rw [hd] at c1
      clear hd
      go_enter Try.func25, Try.ntmps25
      go_wp2_with fail
      (with_reducible refine (c1.out _).mono ?_); rintro e w1 ⟨rfl, hb⟩; have HL := hid (Lv.kept (Lv.alloc (vs := [.int .i64 0, .int .i64 0, .int .i64 0, .int .i64 0]) (T := 23) (Lv.alloc (vs := [.int .i64 n, .int .i64 d]) (T := 27) (Lv.start w))) hb); clear hb
      have hL := HL.out.facts
      simp only [liveAt, cellsAt, and_true, Nat.zero_add, Nat.reduceAdd, World.size_alloc] at hL
      have hbl := HL.out.below
      have HX := hid hcg
      clear hcg
      go_wp2_with fail
      all_goals first
        | (exfalso; apply HX.out; (try simp only [Bool.not_eq_false', Bool.not_eq_true', decide_eq_true_eq, decide_eq_false_iff_not] at *); omega)
        | (refine bodyPost_ret (by simp [results, Try.results25, go_sem, *]; try rfl) rfl ?_; exact ⟨rfl, by go_grown⟩)
        | (exfalso; apply HX.out; simp_all; omega)
  · rw [show planV n d k j c g = (0, 0, 0, 0, 0, 1) from by
      have : planE n d k j c g = 1 := by unfold planE; rw [if_neg (fun h => hd h.1)]
      unfold planV; rw [this, if_neg (by decide)]]
    rw [show decV n d k j = false by simpa using hd] at c1
    clear hd
    go_enter Try.func25, Try.ntmps25
    go_wp2_with fail
    (with_reducible refine (c1.out _).mono ?_); rintro e w1 ⟨rfl, hb⟩; have HL := hid (Lv.kept (Lv.alloc (vs := [.int .i64 0, .int .i64 0, .int .i64 0, .int .i64 0]) (T := 23) (Lv.alloc (vs := [.int .i64 n, .int .i64 d]) (T := 27) (Lv.start w))) hb); clear hb
    have hL := HL.out.facts
    simp only [liveAt, cellsAt, and_true, Nat.zero_add, Nat.reduceAdd, World.size_alloc] at hL
    have hbl := HL.out.below
    go_wp2
    all_goals (refine bodyPost_ret (by simp [results, Try.results25, go_sem, *]; try rfl) rfl ?_; exact ⟨rfl, by go_grown⟩)
end Go.Proofs.Ythmkkanjjlechaa
