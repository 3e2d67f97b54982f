/- Checks, bounds, demands and plans of controls: no statement is proved here. -/
import Derived.Test.YthmkkanjjlechaaControlBound
namespace Go.Proofs.Ythmkkanjjlechaa
open Go.ChangeShapes Go.WideShapes Go.ChangeAt Go.RowKit
set_option linter.unusedVariables false
set_option linter.unusedSimpArgs false

theorem most_bd {m k : Int} (h1 : 0 ≤ m) (h2 : m ≤ 4096) (h3 : 0 ≤ k) (h4 : k ≤ 4096) : 0 ≤ m * (65536 - k) ∧ m * (65536 - k) ≤ 268435456 := by
  have a := Int.mul_nonneg h1 (show 0 ≤ 65536 - k by omega)
  have b := Int.mul_le_mul h2 (show 65536 - k ≤ 65536 by omega) (by omega) (by omega)
  omega
theorem bcell' {P : Program} {f : FuncId} {args : Array Value} {w : World} {v : Value} {x : Obj} (hc : Calls P f args w fun e w' => e = .returned v ∧ w' = w.alloc x) : Calls P f args w fun e w' => e = .returned v ∧ Below w.heap.size w w' :=
  hc.mono fun e w' ⟨h1, h2⟩ => ⟨h1, by subst h2; go_grown⟩
theorem decV_true {n d k j : Int} : decV n d k j = true ↔ posV n d = true ∧ (0 ≤ k ∧ k ≤ 4096) ∧ 0 ≤ j ∧ j ≤ 65536 := by unfold decV; simp
set_option maxHeartbeats 4000000 in
theorem check_any (t c g m n d k j s : Int) (w : World) :
    Calls Try.prog 40 #[.agg #[.int .i64 t, .int .i64 c, .int .i64 g, .int .i64 m], .agg #[.int .i64 n, .int .i64 d], .int .i64 k, .int .i64 j, .int .i64 s] w fun e w' => e = .returned (.int .i64 (chkV t c g m n d k j s)) ∧ Below w.heap.size w w' := by
  have H0 := hid (Lv.alloc (vs := [.int .i64 n, .int .i64 d]) (T := 27) (Lv.alloc (vs := [.int .i64 t, .int .i64 c, .int .i64 g, .int .i64 m]) (T := 23) (Lv.start w)))
  have c1 := hid (fun w => bcell' (cvalid_any t c g m w))
  have c2 := hid (fun w => declares_any n d k j w)
  have hst := H0.out.facts
  simp only [liveAt, cellsAt, and_true, Nat.zero_add, Nat.reduceAdd, World.size_alloc] at hst
  cases h1 : ctlV t c g m
  · have e : chkV t c g m n d k j s = 1 := by unfold chkV; simp [h1]
    rw [e]; rw [h1] at c1; clear e h1 hst
    go_enter Try.func40, Try.ntmps40
    go_wp2_with (go_at_call 18; (with_reducible refine (c1.out _).mono ?_); rintro e w1 ⟨rfl, hb⟩; have HL1 := hid (H0.out.kept hb); clear hb; have hL := HL1.out.facts; simp only [liveAt, cellsAt, and_true, Nat.zero_add, Nat.reduceAdd, World.size_alloc] at hL)
    go_ret
    exact ⟨rfl, HL1.out.below⟩
  cases h2 : decV n d k j
  · have e : chkV t c g m n d k j s = 1 := by unfold chkV; simp [h2]
    rw [e]; rw [h1] at c1; rw [h2] at c2; clear e h1 h2 hst
    go_enter Try.func40, Try.ntmps40
    go_wp2_with (first | (go_at_call 18; (with_reducible refine (c1.out _).mono ?_); rintro e w1 ⟨rfl, hb⟩; have HL1 := hid (H0.out.kept hb); clear hb; have hL := HL1.out.facts; simp only [liveAt, cellsAt, and_true, Nat.zero_add, Nat.reduceAdd, World.size_alloc] at hL) | (go_at_call 46; (with_reducible refine (c2.out _).mono ?_); rintro e w2 ⟨rfl, hb⟩; have HL2 := hid (HL1.out.kept hb); clear hb hL; have hL := HL2.out.facts; simp only [liveAt, cellsAt, and_true, Nat.zero_add, Nat.reduceAdd, World.size_alloc] at hL))
    go_ret
    exact ⟨rfl, HL2.out.below⟩
  · obtain ⟨_, ⟨g1, g2⟩, _, m1, m2⟩ := (by have := ctlV_true.1 h1; omega : (0 ≤ t) ∧ (1 ≤ g ∧ g ≤ 4096) ∧ (0 ≤ t) ∧ 0 ≤ m ∧ m ≤ 4096)
    obtain ⟨_, ⟨k1, k2⟩, j1, j2⟩ := decV_true.1 h2
    obtain ⟨p1, p2⟩ := most_bd m1 m2 k1 k2
    have e : chkV t c g m n d k j s = if 0 ≤ s ∧ s ≤ 65536 then (if m * (65536 - k) < 65536 * k then 11 else 0) else 1 := by unfold chkV; simp [h1, h2]
    rw [e]; rw [h1] at c1; rw [h2] at c2; clear e h1 h2 hst
    go_enter Try.func40, Try.ntmps40
    go_wp2_with (first | (go_at_call 18; (with_reducible refine (c1.out _).mono ?_); rintro e w1 ⟨rfl, hb⟩; have HL1 := hid (H0.out.kept hb); clear hb; have hL := HL1.out.facts; simp only [liveAt, cellsAt, and_true, Nat.zero_add, Nat.reduceAdd, World.size_alloc] at hL) | (go_at_call 46; (with_reducible refine (c2.out _).mono ?_); rintro e w2 ⟨rfl, hb⟩; have HL2 := hid (HL1.out.kept hb); clear hb hL; have hL := HL2.out.facts; simp only [liveAt, cellsAt, and_true, Nat.zero_add, Nat.reduceAdd, World.size_alloc] at hL) | go_in)
    all_goals go_ret
    all_goals (refine ⟨ret_int ?_, HL2.out.below⟩; clear hL)
    all_goals ((try simp only [Bool.not_eq_false', Bool.not_eq_true', decide_eq_true_eq, decide_eq_false_iff_not] at *))
    all_goals first
      | rfl
      | ((repeat' split) <;> first | rfl | omega | (exfalso; omega) | (exfalso; simp_all; done) | (exfalso; simp_all; omega))
      | trace_state
theorem keep6 {P : Program} {f : FuncId} {args : Array Value} {w W : World} {v : Value} {B : Nat} {t c g m n d : Int}
    (hc : Calls P f args w fun e w' => e = .returned v ∧ Below w.heap.size w w') (h : w.cell? ⟨B, 0, none⟩ = some (.int .i64 t) ∧ w.cell? ⟨B, 1, none⟩ = some (.int .i64 c) ∧ w.cell? ⟨B, 2, none⟩ = some (.int .i64 g) ∧ w.cell? ⟨B, 3, none⟩ = some (.int .i64 m) ∧ w.cell? ⟨B + 1, 0, none⟩ = some (.int .i64 n) ∧ w.cell? ⟨B + 1, 1, none⟩ = some (.int .i64 d) ∧ Lv W w [(B + 1, [.int .i64 n, .int .i64 d], 27), (B, [.int .i64 t, .int .i64 c, .int .i64 g, .int .i64 m], 23)]) :
    Calls P f args w fun e w' => e = .returned v ∧ (w'.cell? ⟨B, 0, none⟩ = some (.int .i64 t) ∧ w'.cell? ⟨B, 1, none⟩ = some (.int .i64 c) ∧ w'.cell? ⟨B, 2, none⟩ = some (.int .i64 g) ∧ w'.cell? ⟨B, 3, none⟩ = some (.int .i64 m) ∧ w'.cell? ⟨B + 1, 0, none⟩ = some (.int .i64 n) ∧ w'.cell? ⟨B + 1, 1, none⟩ = some (.int .i64 d) ∧ Lv W w' [(B + 1, [.int .i64 n, .int .i64 d], 27), (B, [.int .i64 t, .int .i64 c, .int .i64 g, .int .i64 m], 23)]) :=
  hc.mono fun e w' ⟨h1, h2⟩ => by
    have hl := h.2.2.2.2.2.2.kept h2
    have b1 := hl.live.1
    have b2 := hl.live.2.1
    have f : ∀ {b : Nat} {vs : List Value} {T : TypeId} (hb : w'.heap[b]? = some (.cells vs.toArray T (0, 0))) (i : Nat) {v : Value}, vs[i]? = some v → w'.cell? ⟨b, i, none⟩ = some v := by intro b vs T hb i v hv; exact (cell_of_row w' b i _ T (0, 0) hb).trans (by simpa using hv)
    exact ⟨h1, f b2 0 rfl, f b2 1 rfl, f b2 2 rfl, f b2 3 rfl, f b1 0 rfl, f b1 1 rfl, hl⟩
theorem ret_two {k k2 : IntKind} {a b a2 b2 : Int} (h : a = a2) (h2 : b = b2) : Ending.returned (.tuple #[.int k a, .int k2 b]) = .returned (.tuple #[.int k a2, .int k2 b2]) := by rw [h, h2]
theorem start6 {w W : World} {B : Nat} {t c g m n d : Int} (h : Lv W w [(B + 1, [.int .i64 n, .int .i64 d], 27), (B, [.int .i64 t, .int .i64 c, .int .i64 g, .int .i64 m], 23)]) : w.drew.cell? ⟨B, 0, none⟩ = some (.int .i64 t) ∧ w.drew.cell? ⟨B, 1, none⟩ = some (.int .i64 c) ∧ w.drew.cell? ⟨B, 2, none⟩ = some (.int .i64 g) ∧ w.drew.cell? ⟨B, 3, none⟩ = some (.int .i64 m) ∧ w.drew.cell? ⟨B + 1, 0, none⟩ = some (.int .i64 n) ∧ w.drew.cell? ⟨B + 1, 1, none⟩ = some (.int .i64 d) ∧ Lv W w.drew [(B + 1, [.int .i64 n, .int .i64 d], 27), (B, [.int .i64 t, .int .i64 c, .int .i64 g, .int .i64 m], 23)] := by
  have hl := h.drew
  have b1 := hl.live.1
  have b2 := hl.live.2.1
  have f : ∀ {b : Nat} {vs : List Value} {T : TypeId} (hb : w.drew.heap[b]? = some (.cells vs.toArray T (0, 0))) (i : Nat) {v : Value}, vs[i]? = some v → w.drew.cell? ⟨b, i, none⟩ = some v := by intro b vs T hb i v hv; exact (cell_of_row w.drew b i _ T (0, 0) hb).trans (by simpa using hv)
  exact ⟨f b2 0 rfl, f b2 1 rfl, f b2 2 rfl, f b2 3 rfl, f b1 0 rfl, f b1 1 rfl, hl⟩
theorem below_same {P : Program} {f : FuncId} {args : Array Value} {w : World} {v : Value} (hc : Calls P f args w fun e w' => e = .returned v ∧ w = w') : Calls P f args w fun e w' => e = .returned v ∧ Below w.heap.size w w' :=
  hc.mono fun e w' ⟨h1, h2⟩ => ⟨h1, by subst h2; exact Below.refl _ _⟩
theorem chk_bd {t c g m n d k j s : Int} (h : chkV t c g m n d k j s = 0) : ctlV t c g m = true ∧ posV n d = true ∧ (0 ≤ k ∧ k ≤ 4096) ∧ (0 ≤ j ∧ j ≤ 65536) ∧ 0 ≤ s ∧ s ≤ 65536 := by
  unfold chkV at h
  split at h
  · rename_i hh
    obtain ⟨h1, h2, h3⟩ := hh
    have := decV_true.1 h2
    exact ⟨h1, this.1, this.2.1, this.2.2, h3⟩
  · omega
theorem twi_bd {n d p : Int} (h : posV n d = true) (h1 : 0 ≤ p) (h2 : p ≤ 8192) : 0 ≤ twiV n d p ∧ twiV n d p ≤ 131073 := by
  obtain ⟨n1, n2, d1, d2⟩ := posV_bd h
  have hn : n ≤ 524288 * d := by unfold posV at h; simp only [decide_eq_true_eq] at h; omega
  have q1 : 0 ≤ 2 * n * p := Int.mul_nonneg (by omega) h1
  have q2 : 2 * n * p ≤ 2 * (524288 * d) * 8192 := Int.mul_le_mul (by omega) h2 h1 (by omega)
  unfold twiV ceilV
  refine ⟨Int.ediv_nonneg (by omega) (by omega), ?_⟩
  have : (2 * n * p + d * 65536 - 1) / (d * 65536) < 131074 := Int.ediv_lt_of_lt_mul (by omega) (by omega)
  omega
theorem ceilR_bd {n d : Int} (h : posV n d = true) : 0 ≤ ceilV n d ∧ ceilV n d ≤ 524289 := by
  obtain ⟨n1, n2, d1, d2⟩ := posV_bd h
  have hn : n ≤ 524288 * d := by unfold posV at h; simp only [decide_eq_true_eq] at h; omega
  unfold ceilV
  refine ⟨Int.ediv_nonneg (by omega) (by omega), ?_⟩
  have : (n + d - 1) / d < 524290 := Int.ediv_lt_of_lt_mul (by omega) (by omega)
  omega
set_option maxHeartbeats 8000000 in
theorem bound_any (t c g m n d k j s : Int) (w : World) :
    Calls Try.prog 20 #[.agg #[.int .i64 t, .int .i64 c, .int .i64 g, .int .i64 m], .agg #[.int .i64 n, .int .i64 d], .int .i64 k, .int .i64 j, .int .i64 s] w fun e w' => e = .returned (.tuple #[.int .i64 (bndV t c g m n d k j s).1, .int .i64 (bndV t c g m n d k j s).2]) ∧ Below w.heap.size w w' := by
  have H0 := hid (Lv.alloc (vs := [.int .i64 n, .int .i64 d]) (T := 27) (Lv.alloc (vs := [.int .i64 t, .int .i64 c, .int .i64 g, .int .i64 m]) (T := 23) (Lv.start w)))
  have c1 := hid (fun w => check_any t c g m n d k j s w)
  have hst := H0.out.facts
  simp only [liveAt, cellsAt, and_true, Nat.zero_add, Nat.reduceAdd, World.size_alloc] at hst
  by_cases h : chkV t c g m n d k j s = 0
  · obtain ⟨hc, hp, ⟨k1, k2⟩, ⟨j1, j2⟩, s1, s2⟩ := chk_bd h
    obtain ⟨_, ⟨d1, d2⟩, ⟨g1, g2⟩, m1, m2⟩ := ctlV_true.1 hc
    have hw := ceil_bd m1 g1
    have ht := twi_bd hp (show 0 ≤ k + m by omega) (by omega)
    have c2 := hid (fun w => ceil_any m g m1 (by omega) g1 (by omega) w)
    have c3 := hid (fun w => twice_any n d (k + m) hp (by omega) (by omega) w)
    have e : bndV t c g m n d k j s = (max s (c + ceilV m g) + twiV n d (k + m) + 2 * j + 2, 0) := by unfold bndV; rw [if_pos h]
    rw [e]; rw [h] at c1
    have hw' : 0 ≤ ceilV m g ∧ ceilV m g ≤ m := hw
    obtain ⟨hw1, hw2⟩ := hw'
    obtain ⟨ht1, ht2⟩ := ht
    clear e h hc hp hst hw
    generalize ceilV m g = X at *
    generalize twiV n d (k + m) = Y at *
    go_enter Try.func20, Try.ntmps20
    go_wp2_with (first | (go_at_call 40; (with_reducible refine (c1.out _).mono ?_); rintro e w1 ⟨rfl, hb⟩; have HL1 := hid (H0.out.kept hb); clear hb; have hL := HL1.out.facts; simp only [liveAt, cellsAt, and_true, Nat.zero_add, Nat.reduceAdd, World.size_alloc] at hL) | (go_at_call 41; (with_reducible refine (c2.out _).mono ?_); rintro e w2 ⟨rfl, rfl⟩) | (go_at_call 42; (with_reducible refine (c3.out _).mono ?_); rintro e w3 ⟨rfl, hb⟩; have HL3 := hid (HL1.out.kept hb); clear hb))
    have hl1 := HL1.out
    simp only [World.size_alloc] at hl1
    generalize hB : w.heap.size = B at *
    have hS := start6 hl1
    have q1 : IntKind.i64.wrap (c + X) = c + X := IntWalk.i64_in _ (by omega)
    clear hl1 hL HL1 H0
    go_region_held3 (fun w' => w'.cell? ⟨B, 0, none⟩ = some (.int .i64 t) ∧ w'.cell? ⟨B, 1, none⟩ = some (.int .i64 c) ∧ w'.cell? ⟨B, 2, none⟩ = some (.int .i64 g) ∧ w'.cell? ⟨B, 3, none⟩ = some (.int .i64 m) ∧ w'.cell? ⟨B + 1, 0, none⟩ = some (.int .i64 n) ∧ w'.cell? ⟨B + 1, 1, none⟩ = some (.int .i64 d) ∧ Lv w w' [(B + 1, [.int .i64 n, .int .i64 d], 27), (B, [.int .i64 t, .int .i64 c, .int .i64 g, .int .i64 m], 23)]) (assumption) (first | (go_at_call 41; refine (keep6 (below_same (c2.out _)) (by assumption)).mono ?_; rintro e w' ⟨rfl, hS⟩))
    clear q1
    obtain ⟨_, _, _, _, _, _, hl2⟩ := hS
    have HL2 := hid hl2
    have hS2 := start6 hl2
    clear hl2
    go_wp2_with (go_at_call 42; (with_reducible refine (c3.out _).mono ?_); rintro e w3 ⟨rfl, hb⟩; have HL3 := hid (HL2.out.kept hb); clear hb)
    all_goals go_ret2
    all_goals exact ⟨ret_two (by omega) rfl, by have h := HL3.out.below; rw [hB] at h; exact h⟩
  · have e : bndV t c g m n d k j s = (0, chkV t c g m n d k j s) := by unfold bndV; rw [if_neg h]
    rw [e]
    have hb1 : (chkV t c g m n d k j s == 0) = false := by simpa using h
    have hb2 : (chkV t c g m n d k j s != 0) = true := by simpa using h
    generalize chkV t c g m n d k j s = Z at *
    clear h e hst
    go_enter Try.func20, Try.ntmps20
    go_wp2_with (first | (go_at_call 40; (with_reducible refine (c1.out _).mono ?_); rintro e w1 ⟨rfl, hb⟩; have HL1 := hid (H0.out.kept hb); clear hb; have hL := HL1.out.facts; simp only [liveAt, cellsAt, and_true, Nat.zero_add, Nat.reduceAdd, World.size_alloc] at hL))
    go_ret2
    exact ⟨rfl, HL1.out.below⟩
set_option maxHeartbeats 8000000 in
theorem rbound_any (t c g m n d k j s : Int) (w : World) :
    Calls Try.prog 21 #[.agg #[.int .i64 t, .int .i64 c, .int .i64 g, .int .i64 m], .agg #[.int .i64 n, .int .i64 d], .int .i64 k, .int .i64 j, .int .i64 s] w fun e w' => e = .returned (.tuple #[.int .i64 (bndV t c g m n d k j s).1, .int .i64 (bndV t c g m n d k j s).2]) ∧ Below w.heap.size w w' := by
  have H0 := hid (Lv.alloc (vs := [.int .i64 n, .int .i64 d]) (T := 27) (Lv.alloc (vs := [.int .i64 t, .int .i64 c, .int .i64 g, .int .i64 m]) (T := 23) (Lv.start w)))
  have c1 := hid (fun w => bcell' (rcvalid_any t c g m w))
  have c2 := hid (fun w => given_any n d k j w)
  have hst := H0.out.facts
  simp only [liveAt, cellsAt, and_true, Nat.zero_add, Nat.reduceAdd, World.size_alloc] at hst
  cases h1 : ctlV t c g m
  · have e : bndV t c g m n d k j s = (0, 1) := by unfold bndV chkV; simp [h1]
    rw [e]; rw [h1] at c1; clear e h1 hst
    go_enter Try.func21, Try.ntmps21
    go_wp2_with (first | (go_at_call 19; (with_reducible refine (c1.out _).mono ?_); rintro e w1 ⟨rfl, hb⟩; have HL1 := hid (H0.out.kept hb); clear hb; have hL := HL1.out.facts; simp only [liveAt, cellsAt, and_true, Nat.zero_add, Nat.reduceAdd, World.size_alloc] at hL) | (go_at_call 43; (with_reducible refine (c2.out _).mono ?_); rintro e w2 ⟨rfl, hb⟩; have HL2 := hid (HL1.out.kept hb); clear hb hL; have hL := HL2.out.facts; simp only [liveAt, cellsAt, and_true, Nat.zero_add, Nat.reduceAdd, World.size_alloc] at hL))
    go_ret2
    exact ⟨rfl, HL1.out.below⟩
  cases h2 : decV n d k j
  · have e : bndV t c g m n d k j s = (0, 1) := by unfold bndV chkV; simp [h2]
    rw [e]; rw [h1] at c1; rw [h2] at c2; clear e h1 h2 hst
    go_enter Try.func21, Try.ntmps21
    go_wp2_with (first | (go_at_call 19; (with_reducible refine (c1.out _).mono ?_); rintro e w1 ⟨rfl, hb⟩; have HL1 := hid (H0.out.kept hb); clear hb; have hL := HL1.out.facts; simp only [liveAt, cellsAt, and_true, Nat.zero_add, Nat.reduceAdd, World.size_alloc] at hL) | (go_at_call 43; (with_reducible refine (c2.out _).mono ?_); rintro e w2 ⟨rfl, hb⟩; have HL2 := hid (HL1.out.kept hb); clear hb hL; have hL := HL2.out.facts; simp only [liveAt, cellsAt, and_true, Nat.zero_add, Nat.reduceAdd, World.size_alloc] at hL))
    go_ret2
    exact ⟨rfl, HL2.out.below⟩
  have hc := ctlV_true.1 h1
  obtain ⟨_, ⟨d1, d2⟩, ⟨g1, g2⟩, m1, m2⟩ := hc
  obtain ⟨hp, ⟨k1, k2⟩, j1, j2⟩ := decV_true.1 h2
  obtain ⟨p1, p2⟩ := most_bd m1 m2 k1 k2
  have e0 : chkV t c g m n d k j s = if 0 ≤ s ∧ s ≤ 65536 then (if m * (65536 - k) < 65536 * k then 11 else 0) else 1 := by unfold chkV; simp [h1, h2]
  rw [h1] at c1; rw [h2] at c2
  by_cases h : (0 ≤ s ∧ s ≤ 65536) ∧ 65536 * k ≤ m * (65536 - k)
  · obtain ⟨⟨s1, s2⟩, hm⟩ := h
    have h : chkV t c g m n d k j s = 0 := by rw [e0, if_pos ⟨s1, s2⟩, if_neg (by omega)]
    have hw := ceil_bd m1 g1
    have ht := twi_bd hp (show 0 ≤ k + m by omega) (by omega)
    have c3 := hid (fun w => up_any m g m1 (by omega) g1 (by omega) w)
    have c4 := hid (fun w => sway_any n d (k + m) hp (by omega) (by omega) w)
    have e : bndV t c g m n d k j s = (max s (c + ceilV m g) + twiV n d (k + m) + 2 * j + 2, 0) := by unfold bndV; rw [if_pos h]
    rw [e]
    have hw' : 0 ≤ ceilV m g ∧ ceilV m g ≤ m := hw
    obtain ⟨hw1, hw2⟩ := hw'
    obtain ⟨ht1, ht2⟩ := ht
    clear e h hp hst hw e0 h1 h2
    generalize ceilV m g = X at *
    generalize twiV n d (k + m) = Y at *
    go_enter Try.func21, Try.ntmps21
    go_wp2_with (first | (go_at_call 19; (with_reducible refine (c1.out _).mono ?_); rintro e w1 ⟨rfl, hb⟩; have HL1 := hid (H0.out.kept hb); clear hb; have hL := HL1.out.facts; simp only [liveAt, cellsAt, and_true, Nat.zero_add, Nat.reduceAdd, World.size_alloc] at hL) | (go_at_call 43; (with_reducible refine (c2.out _).mono ?_); rintro e w2 ⟨rfl, hb⟩; have HL2 := hid (HL1.out.kept hb); clear hb hL; have hL := HL2.out.facts; simp only [liveAt, cellsAt, and_true, Nat.zero_add, Nat.reduceAdd, World.size_alloc] at hL))
    have hl1 := HL2.out
    simp only [World.size_alloc] at hl1
    generalize hB : w.heap.size = B at *
    have hS := start6 hl1
    have q1 : IntKind.i64.wrap (c + X) = c + X := IntWalk.i64_in _ (by omega)
    have q2 : IntKind.i64.wrap (k + m) = k + m := IntWalk.i64_in _ (by omega)
    have HB := hid hB
    clear hl1 hL HL1 HL2 H0 hB
    rcases Int.lt_or_le s (c + X) with hmx | hmx
    all_goals go_region_held3 (fun w' => w'.cell? ⟨B, 0, none⟩ = some (.int .i64 t) ∧ w'.cell? ⟨B, 1, none⟩ = some (.int .i64 c) ∧ w'.cell? ⟨B, 2, none⟩ = some (.int .i64 g) ∧ w'.cell? ⟨B, 3, none⟩ = some (.int .i64 m) ∧ w'.cell? ⟨B + 1, 0, none⟩ = some (.int .i64 n) ∧ w'.cell? ⟨B + 1, 1, none⟩ = some (.int .i64 d) ∧ Lv w w' [(B + 1, [.int .i64 n, .int .i64 d], 27), (B, [.int .i64 t, .int .i64 c, .int .i64 g, .int .i64 m], 23)]) (assumption) (first | (go_at_call 44; refine (keep6 (below_same (c3.out _)) (by assumption)).mono ?_; rintro e w' ⟨rfl, hS⟩) | (go_at_call 45; refine (keep6 (c4.out _) (by assumption)).mono ?_; rintro e w' ⟨rfl, hS⟩))
    all_goals obtain ⟨_, _, _, _, _, _, hl2⟩ := hS
    all_goals have HL5 := hid hl2
    all_goals clear hl2 q1 q2
    all_goals go_wp2
    all_goals go_ret2
    all_goals exact ⟨ret_two (by first | omega | (simp only [IntKind.wrap_i64]; omega)) rfl, HL5.out.below⟩
  · have e : bndV t c g m n d k j s = (0, chkV t c g m n d k j s) := by unfold bndV; rw [if_neg (by rw [e0]; intro hh; apply h; split at hh <;> (try split at hh) <;> omega)]
    rw [e, e0]
    have H := hid h
    clear e h e0 hst h1 h2 hp
    go_enter Try.func21, Try.ntmps21
    go_wp2_with (first | (go_at_call 19; (with_reducible refine (c1.out _).mono ?_); rintro e w1 ⟨rfl, hb⟩; have HL1 := hid (H0.out.kept hb); clear hb; have hL := HL1.out.facts; simp only [liveAt, cellsAt, and_true, Nat.zero_add, Nat.reduceAdd, World.size_alloc] at hL) | (go_at_call 43; (with_reducible refine (c2.out _).mono ?_); rintro e w2 ⟨rfl, hb⟩; have HL2 := hid (HL1.out.kept hb); clear hb hL; have hL := HL2.out.facts; simp only [liveAt, cellsAt, and_true, Nat.zero_add, Nat.reduceAdd, World.size_alloc] at hL))
    all_goals first
      | (go_ret2; exact ⟨ret_two rfl (by (repeat' split) <;> omega), HL2.out.below⟩)
      | (exfalso; apply H.out; omega)
end Go.Proofs.Ythmkkanjjlechaa
