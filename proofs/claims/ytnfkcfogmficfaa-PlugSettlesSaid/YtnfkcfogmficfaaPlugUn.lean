/- A device that goes: no statement is proved here. -/
import Derived.Test.YtnfkcfogmficfaaPlugSane
import Derived.Deep.RegionLaw
import Derived.Deep.AppendLies
import Derived.Deep.RegionHeld3
namespace Go.Proofs.Ytnfkcfogmficfaa
open Go.ChangeShapes Go.WideShapes Go.ChangeAt Go.RowKit
set_option linter.unusedVariables false
set_option linter.unusedSimpArgs false

theorem Live.below_from {w w' : World} {B : Nat} (hb : Below B w w') : ∀ {L : List (Nat × List Value × TypeId)}, Live w L → (∀ x ∈ L, x.1 < B) → Live w' L
  | [], _, _ => trivial
  | (b, vs, T) :: L, h, hd => ⟨(hb.block b (hd _ (List.mem_cons_self ..))).trans h.1, Live.below_from hb h.2 fun x hx => hd x (List.mem_cons_of_mem _ hx)⟩
theorem Lv.below_from {W w w' : World} {B : Nat} {L : List (Nat × List Value × TypeId)} (h : Lv W w L) (hb : Below B w w') (hd : ∀ x ∈ L, x.1 < B) (hB : W.heap.size ≤ B) : Lv W w' L :=
  ⟨h.below.trans (hb.mono hB), h.live.below_from hb hd⟩
theorem cmp_same (x : Int) (w : World) : Calls Try.prog 98 #[.int .u64 x, .int .u64 x] w fun e w' => e = .returned (.int .i64 0) ∧ w = w' := by
  go_enter Try.func98, Try.ntmps98
  go_wp2
  go_ret
  exact ⟨rfl, rfl⟩
theorem pc_same (x a : Int) (w : World) : Calls Try.prog 97 #[.agg #[.int .u64 x, .int .i64 a], .int .u64 x] w fun e w' => e = .returned (.int .i64 0) ∧ Below w.heap.size w w' := by
  go_enter Try.func97, Try.ntmps97
  go_wp2_with (go_at_call 98; (with_reducible refine (cmp_same _ _).mono ?_); rintro e w2 ⟨rfl, rfl⟩)
  go_ret
  exact ⟨rfl, by go_grown⟩
set_option maxRecDepth 100000 in
set_option maxHeartbeats 8000000 in
theorem place1_any (st : Int) (B : Nat) (v : Value) (id at_ : Int) (w : World) (h : One w B v id at_) :
    Calls Try.prog 78 #[.agg #[.int .i64 st, v], .int .u64 id] w fun e w' => e = .returned (.tuple #[.int .i64 0, .bool true]) ∧ Below w.heap.size w w' := by
  have cc := hid (fun w => pc_same id at_ w)
  obtain ⟨g, cap, rfl, hB, hg, hc, hm, c0, c1⟩ := h.facts
  unfold maxLen at hm
  clear h
  go_enter Try.func78, Try.ntmps78
  go_wp2_with go_in
  refine wp_loop_rounds 2 ?_
  rw [rounds_succ]
  go_wp2_with (go_at_call 97; (with_reducible refine (cc.out _).mono ?_); rintro e w1 ⟨rfl, hb⟩; obtain ⟨hc1, hf1⟩ := bcell hb; have HB := hid hb; have hgs := hb.size; clear hb)
  rw [rounds_succ]
  go_wp2_with (go_at_call 97; (with_reducible refine (cc.out _).mono ?_); rintro e w2 ⟨rfl, hb⟩; have HB2 := hid hb; clear hb)
  go_ret2
  exact ⟨rfl, ((((Below.refl w.heap.size w).alloc (Nat.le_refl _) _).trans (HB.out.mono (by simp))).trans (HB2.out.mono (by simp at hgs; omega)))⟩
theorem emp_new (w : World) : Emp (w.alloc (.cells #[] 115)) w.heap.size (.slice (some ⟨w.heap.size, 0, none⟩) 0 0) :=
  ⟨rfl, .inr ⟨w.heap.size, 0, #[], rfl, Nat.le_refl _, heap_alloc_new w _, Nat.le_refl _, Nat.zero_le _, rfl, rfl⟩⟩
theorem two_src {w : World} {g : Nat} {a b : Value} (h0 : w.cell? ⟨g, 0, none⟩ = some a) (h1 : w.cell? ⟨g, 1, none⟩ = some b) : ∀ (j : Nat) (u : Value), [a, b][j]? = some u → w.cell? ((⟨g, 0, none⟩ : Addr).add j) = some u := by
  intro j u hj
  rw [Addr.add_lit]
  match j, hj with
  | 0, hj => simp at hj; subst hj; exact h0
  | 1, hj => simp at hj; subst hj; exact h1
set_option maxRecDepth 100000 in
set_option maxHeartbeats 8000000 in
theorem clone1_any (B : Nat) (v : Value) (id at_ : Int) (w : World) (h : One w B v id at_) :
    Calls Try.prog 80 #[v] w fun e w' => (∃ v', e = .returned v' ∧ One w' w.heap.size v' id at_) ∧ Below w.heap.size w w' := by
  have HO := hid h
  obtain ⟨g, cap, rfl, hB, hg, hc, hm, c0, c1⟩ := h.facts
  unfold maxLen at hm
  have hn := fun (w : World) => Lib.run_eql_slice_nil (P := Try.prog) w 55 115 (some ⟨g, 0, none⟩) 1 cap 0 0 Try.underlying55
  obtain ⟨i0, hi, hz, hs2, hb2⟩ := info_parts info_sight
  have HI := hid hi
  have HZ := hid hz
  have HS2 := hid hs2
  have HB2 := hid hb2
  have HE := hid (emp_new w)
  have HN := hid (two_src (w := w.alloc (.cells #[] 115)) (g := g) (a := .int .u64 id) (b := .int .i64 at_) (by simp [World.cell?_alloc_lt, c0, hg]) (by simp [World.cell?_alloc_lt, c1, hg]))
  clear h hi hz hs2 hb2
  go_enter Try.func80, Try.ntmps80
  go_wp2_with (at_builtin; refine wpList_append_own _ rfl (.tmp 5) (.tmp 6) 55 rfl w.heap.size 115 i0 _ 2 16 Try.underlying55 HI.out HZ.out HS2.out HB2.out rfl (by decide) _ 0 [] rfl HE.out ⟨g, 0, none⟩ 1 cap [.int .u64 id, .int .i64 at_] rfl rfl HN.out (by intro u hu; simp at hu; rcases hu with rfl | rfl <;> rfl) (by decide) (by decide) (by simp) ?_; intro v' w1 ho hg1 _; have HO1 := hid ho; have HG := hid (((Below.refl w.heap.size w).alloc (Nat.le_refl _) _).grown hg1 (by simp) (fun k hk => (HE.out.lt k hk).1)); clear ho hg1)
  go_ret
  exact ⟨⟨_, rfl, HO1.out⟩, HG.out⟩
theorem run_clear2 (w : World) (ty : TypeId) (g c : Nat) (h0 : (w.cell? ⟨g, 0, none⟩).isSome = true) (h1 : (w.cell? ⟨g, 1, none⟩).isSome = true) (f0 : w.frozen? ⟨g, 0, none⟩ = false) (f1 : w.frozen? ⟨g, 1, none⟩ = false) :
    (Builtin.clear_ #[55] ty #[.slice (some ⟨g, 0, none⟩) 1 c]).run Try.prog w = .ok (.tuple #[]) (w.setCells g 0 [.int .u64 0, .int .i64 0]) := by
  have hv : ∀ w, (zeroValue 115).run Try.prog w = .ok (.agg #[.int .u64 0, .int .i64 0]) w := fun w => by kernel_rfl
  have hzc : (Builtin.zeroCells (Value.agg #[.int .u64 0, .int .i64 0]).cells 1).toList = [.int .u64 0, .int .i64 0] := by kernel_rfl
  have hst := run_storeCells_cells (P := Try.prog) g 0 [.int .u64 0, .int .i64 0] 0 w (by intro j hj; match j, hj with | 0, _ => exact h0 | 1, _ => exact h1) (by intro j hj; match j, hj with | 0, _ => exact f0 | 1, _ => exact f1) (by intro v hv'; simp at hv'; rcases hv' with rfl | rfl <;> rfl)
  simp only [Nat.add_zero] at hst
  simp [Builtin.clear_, run_underlying Try.underlying55, hv, hzc, hst]
set_option maxRecDepth 100000 in
set_option maxHeartbeats 8000000 in
theorem delete1_any (B g cap : Nat) (id at_ : Int) (w : World) (h : One w B (.slice (some ⟨g, 0, none⟩) 1 cap) id at_) :
    Calls Try.prog 82 #[.slice (some ⟨g, 0, none⟩) 1 cap, .int .i64 0, .int .i64 1] w fun e w' => e = .returned (.slice (some ⟨g, 0, none⟩) 0 cap) ∧ Below B w w' ∧ g < w'.heap.size := by
  obtain ⟨g2, cap2, e2, hB, hg, hc, hm, c0, c1⟩ := h.facts
  cases e2
  unfold maxLen at hm
  have f0 : w.frozen? ⟨g, 0, none⟩ = false := by
    rcases h.2 with ⟨h, _⟩ | ⟨g2, cap2, cur, a, b, c, d⟩
    · cases h
    · cases a; exact frozen_of_row w g 0 _ _ c
  have f1 : w.frozen? ⟨g, 1, none⟩ = false := by
    rcases h.2 with ⟨h, _⟩ | ⟨g2, cap2, cur, a, b, c, d⟩
    · cases h
    · cases a; exact frozen_of_row w g 1 _ _ c
  clear h
  by_cases hcap : cap = 1
  · subst hcap
    go_enter Try.func82, Try.ntmps82
    go_wp2
    go_region
    have hcl := fun ty => run_clear2 w.drew ty g 1 (by simpa using by rw [c0]; rfl) (by simpa using by rw [c1]; rfl) (by simpa using f0) (by simpa using f1)
    all_goals go_wp2
    all_goals go_ret
    all_goals exact ⟨rfl, (((Below.refl B w).drew).setCell hB _).setCell hB _, by simp [World.setCells, World.setCell]; exact hg⟩
  · have hc2 : 2 ≤ cap := by omega
    go_enter Try.func82, Try.ntmps82
    go_wp2
    go_region
    have hcl := fun ty => run_clear2 w.drew ty g cap (by simpa using by rw [c0]; rfl) (by simpa using by rw [c1]; rfl) (by simpa using f0) (by simpa using f1)
    all_goals go_wp2
    all_goals go_ret
    all_goals exact ⟨rfl, (((Below.refl B w).drew).setCell hB _).setCell hB _, by simp [World.setCells, World.setCell]; exact hg⟩

def Gone (st : Int) (e : Ending) (w' : World) : Prop := ∃ g cap : Nat, e = .returned (.tuple #[.agg #[.int .i64 st, .slice (some ⟨g, 0, none⟩) 0 cap], .int .i64 0]) ∧ g < w'.heap.size ∧ cap ≤ maxLen
set_option maxRecDepth 100000 in
set_option maxHeartbeats 8000000 in
theorem unplug1_any (st : Int) (B : Nat) (v : Value) (id at_ : Int) (h0 : 0 ≤ st) (h1 : st ≤ 4096) (i0 : 1 ≤ id) (t0 : 0 ≤ at_) (t1 : at_ ≤ 1099511627776) (w : World) (h : One w B v id at_) :
    Calls Try.prog 33 #[.agg #[.int .i64 st, v], .int .u64 id] w fun e w' => Gone st e w' ∧ Below w.heap.size w w' := by
  have HO0 := hid h
  have c1 := hid (fun w h => valid1_any st B v id at_ h0 h1 i0 t0 t1 w h)
  have c2 := hid (fun w h => place1_any st B v id at_ w h)
  have c3 := hid (fun w h => clone1_any B v id at_ w h)
  obtain ⟨g0, cap0, rfl, _, _, _, _, _, _⟩ := h.facts
  clear h
  have hl0 := Lv.alloc (vs := [.int .i64 0, .slice none 0 0]) (T := 57) (Lv.alloc (vs := [.int .i64 st, .slice (some ⟨g0, 0, none⟩) 1 cap0]) (T := 57) (Lv.start w))
  simp only [World.size_alloc] at hl0
  have HL0 := hid hl0
  have HO := hid (One.kept (w' := (w.alloc (.cells #[.int .i64 st, .slice (some ⟨g0, 0, none⟩) 1 cap0] 57)).alloc (.cells #[.int .i64 0, .slice none 0 0] 57)) HO0.out (by go_grown))
  clear hl0
  go_enter Try.func33, Try.ntmps33
  go_wp2_with fail
  (with_reducible refine (c1.out _ HO.out).mono ?_); rintro e w1 ⟨rfl, hb⟩; have HL1 := hid (HL0.out.kept hb); have HO1 := hid (HO.out.kept hb); clear hb HL0 HO c1
  have hL := HL1.out.facts
  simp only [liveAt, cellsAt, and_true, Nat.zero_add, Nat.reduceAdd, World.size_alloc] at hL
  go_wp2_with fail
  (with_reducible refine (c2.out _ HO1.out).mono ?_); rintro e w2 ⟨rfl, hb⟩; have HL2 := hid (HL1.out.kept hb); have HO2 := hid (HO1.out.kept hb); clear hb HL1 HO1 c2 hL
  have hL := HL2.out.facts
  simp only [liveAt, cellsAt, and_true, Nat.zero_add, Nat.reduceAdd, World.size_alloc] at hL
  go_wp2_with fail
  (with_reducible refine (c3.out _ HO2.out).mono ?_); rintro e w3 ⟨⟨v', rfl, ho⟩, hb⟩; have HL3 := hid (HL2.out.kept hb); have hs2 := HL2.out.lt; have HO3 := hid ho; clear hb HL2 HO2 c3 hL ho
  obtain ⟨g, cap, rfl, hB3, hg3, hc3, hm3, _, _⟩ := HO3.out.facts
  have hL := HL3.out.facts
  simp only [liveAt, cellsAt, and_true, Nat.zero_add, Nat.reduceAdd, World.size_alloc] at hL
  have c4 := hid (delete1_any w2.heap.size g cap id at_ w3 HO3.out)
  go_wp2_with fail
  clear hL
  have hs1 := HL3.out.drop.lt
  (with_reducible refine (c4.out).mono ?_); rintro e w4 ⟨rfl, hb, hg4⟩; have HL4 := hid (HL3.out.below_from hb (by intro x hx; simp at hx; rcases hx with rfl | rfl <;> (simp; omega)) (by omega)); clear hb HL3 c4 HO3
  have hL := HL4.out.facts
  simp only [liveAt, cellsAt, and_true, Nat.zero_add, Nat.reduceAdd, World.size_alloc] at hL
  have hbel := HL4.out.below
  go_wp2_with fail
  refine bodyPost_ret (by simp [results, Try.results33, go_sem, *]; try rfl) rfl ?_
  exact ⟨⟨g, cap, rfl, by simp [World.setCell]; exact hg4, hm3⟩, by go_grown⟩
set_option maxRecDepth 100000 in
set_option maxHeartbeats 8000000 in
theorem cloneE_any (g cap : Nat) (w : World) (hm : cap ≤ maxLen) :
    Calls Try.prog 80 #[.slice (some ⟨g, 0, none⟩) 0 cap] w fun e w' => (∃ v', e = .returned v' ∧ Emp w' w.heap.size v') ∧ Below w.heap.size w w' := by
  unfold maxLen at hm
  have hn := fun (w : World) => Lib.run_eql_slice_nil (P := Try.prog) w 55 115 (some ⟨g, 0, none⟩) 0 cap 0 0 Try.underlying55
  obtain ⟨i0, hi, hz, hs2, hb2⟩ := info_parts info_sight
  have HI := hid hi
  have HZ := hid hz
  have HS2 := hid hs2
  have HB2 := hid hb2
  have HE := hid (emp_new w)
  clear hi hz hs2 hb2
  go_enter Try.func80, Try.ntmps80
  go_wp2_with (at_builtin; refine wpList_append_own _ rfl (.tmp 5) (.tmp 6) 55 rfl w.heap.size 115 i0 _ 2 16 Try.underlying55 HI.out HZ.out HS2.out HB2.out rfl (by decide) _ 0 [] rfl HE.out ⟨g, 0, none⟩ 0 cap [] rfl rfl (by intro j u hj; simp at hj) (by intro u hu; cases hu) (by decide) (by decide) (by simp) ?_; intro v' w1 ho hg1 _; have HO1 := hid ho; have HG := hid (((Below.refl w.heap.size w).alloc (Nat.le_refl _) _).grown hg1 (by simp) (fun k hk => (HE.out.lt k hk).1)); clear ho hg1)
  go_ret
  exact ⟨⟨_, rfl, HO1.out⟩, HG.out⟩
set_option maxRecDepth 100000 in
set_option maxHeartbeats 8000000 in
theorem plugE_any (st id at_ : Int) (g0 cap0 : Nat) (hm0 : cap0 ≤ maxLen) (h0 : 0 ≤ st) (h1 : st ≤ 4096) (i0 : 1 ≤ id) (t0 : 0 ≤ at_) (t1 : at_ ≤ 1099511627776) (w : World) :
    Calls Try.prog 31 #[.agg #[.int .i64 st, .slice (some ⟨g0, 0, none⟩) 0 cap0], .int .u64 id, .int .i64 at_] w fun e w' => (∃ v', e = .returned (.tuple #[.agg #[.int .i64 st, v'], .int .i64 0]) ∧ One w' w.heap.size v' id at_) ∧ Below w.heap.size w w' := by
  have c1 := hid (fun w => valid0_any st (some ⟨g0, 0, none⟩) cap0 h0 h1 w)
  have c2 := hid (fun w => place0_any st id (some ⟨g0, 0, none⟩) cap0 w)
  have c3 := hid (fun w => istime_any at_ w)
  have c4 := hid (fun w => cloneE_any g0 cap0 w hm0)
  rw [show decide (0 ≤ at_ ∧ at_ ≤ 1099511627776) = true from decide_eq_true ⟨t0, t1⟩] at c3
  have e1 : (id == 0) = false := by rw [beq_eq_false_iff_ne]; omega
  have hl0 := Lv.alloc (vs := [.int .i64 0, .slice none 0 0]) (T := 57) (Lv.alloc (vs := [.int .i64 st, .slice (some ⟨g0, 0, none⟩) 0 cap0]) (T := 57) (Lv.start w))
  simp only [World.size_alloc] at hl0
  have HL0 := hid hl0
  clear hl0
  unfold maxLen at hm0
  go_enter Try.func31, Try.ntmps31
  go_wp2_with fail
  (with_reducible refine (c1.out _).mono ?_); rintro e w1 ⟨rfl, hb⟩; have HL1 := hid (HL0.out.kept hb); clear hb HL0
  have hL := HL1.out.facts
  simp only [liveAt, cellsAt, and_true, Nat.zero_add, Nat.reduceAdd, World.size_alloc] at hL
  go_wp2_with (go_at_call 77; (with_reducible refine (c3.out _).mono ?_); rintro e w2 ⟨rfl, rfl⟩)
  (with_reducible refine (c2.out _).mono ?_); rintro e w2 ⟨rfl, hb⟩; have HL2 := hid (HL1.out.kept hb); clear hb hL
  have hL := HL2.out.facts
  simp only [liveAt, cellsAt, and_true, Nat.zero_add, Nat.reduceAdd, World.size_alloc] at hL
  go_wp2_with fail
  clear hL
  have hz2 := HL2.out.lt
  (with_reducible refine (c4.out _).mono ?_); rintro e w3 ⟨⟨v, rfl, he⟩, hb⟩; have HL3 := hid (HL2.out.kept hb); have HE := hid (Emp.kept (w' := w3.alloc (.cells #[.int .u64 id, .int .i64 at_] 115)) he (by go_grown)); have hs3 := hb.size; clear hb HL2 he
  obtain ⟨a, c, rfl, ha, hc⟩ := HE.out.form
  clear ha
  have hL := HL3.out.facts
  simp only [liveAt, cellsAt, and_true, Nat.zero_add, Nat.reduceAdd, World.size_alloc] at hL
  go_wp2_with fail
  clear hL
  refine (insert0_any w3.heap.size w2.heap.size _ id at_ _ HE.out (heap_alloc_new w3 _) (by simp; omega)).mono ?_
  rintro e w5 ⟨⟨v', rfl, ho⟩, hb⟩
  have hs1 := HL3.out.drop.lt
  have HL4 := hid ((HL3.out.kept (w' := w3.alloc (.cells #[.int .u64 id, .int .i64 at_] 115)) (by go_grown)).below_from hb (by intro x hx; simp at hx; rcases hx with rfl | rfl <;> (simp; omega)) (by omega))
  have HO := hid ho
  clear ho hb HL3
  have hL := HL4.out.facts
  simp only [liveAt, cellsAt, and_true, Nat.zero_add, Nat.reduceAdd, World.size_alloc] at hL
  have hbel := HL4.out.below
  have hz3 := HL4.out.lt
  obtain ⟨g, cap, rfl, hg, hg2, hc, hm, _, _⟩ := HO.out.facts
  go_wp2
  refine bodyPost_ret (by simp [results, Try.results31, go_sem, *]; try rfl) rfl ?_
  refine ⟨⟨_, rfl, ?_⟩, by go_grown⟩
  exact One.from_ (((HO.out.set (by omega)).set (by omega)).set (by omega)) (by omega)
end Go.Proofs.Ytnfkcfogmficfaa
