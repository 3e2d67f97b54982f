/- Plugs with at most one device: no statement is proved here. -/
import Derived.Test.YtnfkcfogmficfaaPlug
import Derived.Test.YtnfkcfogmficfaaFacts
import Derived.Deep.DeepCutAuto
import Derived.WalkSpells
import Derived.Outline
import Derived.Handy
namespace Go.Proofs.Ytnfkcfogmficfaa
open Go.ChangeShapes Go.WideShapes Go.ChangeAt Go.RowKit
set_option linter.unusedVariables false
set_option linter.unusedSimpArgs false

theorem info_sight : (Try.prog.info? 115).map (fun i => (i.zero, i.size, i.bytes)) = some (some (.agg #[.int .u64 0, .int .i64 0]), 2, 16) := by kernel_rfl
/-- one sighting, in a row of the call's own -/
def One (w : World) (B : Nat) (v : Value) (id at_ : Int) : Prop := w.ownsRow B 115 2 v 1 [.int .u64 id, .int .i64 at_]
theorem One.kept {w w' : World} {B : Nat} {v : Value} {id at_ : Int} (h : One w B v id at_) (hb : Below w.heap.size w w') : One w' B v id at_ := by
  refine ⟨h.1, ?_⟩
  rcases h.2 with h | ⟨g, cap, cur, a, b, c, d⟩
  · exact .inl h
  · exact .inr ⟨g, cap, cur, a, b, (hb.block g (Array.getElem?_eq_some_iff.1 c).1).trans c, d⟩
theorem One.facts {w : World} {B : Nat} {v : Value} {id at_ : Int} (h : One w B v id at_) : ∃ g cap : Nat, v = .slice (some ⟨g, 0, none⟩) 1 cap ∧ B ≤ g ∧ g < w.heap.size ∧ 1 ≤ cap ∧ cap ≤ maxLen ∧ w.cell? ⟨g, 0, none⟩ = some (.int .u64 id) ∧ w.cell? ⟨g, 1, none⟩ = some (.int .i64 at_) := by
  rcases h.2 with ⟨_, h⟩ | ⟨g, cap, cur, a, b, c, d1, d2, d3, d4⟩
  · exact absurd h (by decide)
  · have hlt := (Array.getElem?_eq_some_iff.1 c).1
    have e0 : cur[0]? = some (.int .u64 id) := by
      have := congrArg (fun l : List Value => l[0]?) d4
      simpa using this
    have e1 : cur[1]? = some (.int .i64 at_) := by
      have := congrArg (fun l : List Value => l[1]?) d4
      simpa using this
    exact ⟨g, cap, a, b, hlt, d1, d2, (cell_of_row w g 0 _ _ (0, 0) c).trans e0, (cell_of_row w g 1 _ _ (0, 0) c).trans e1⟩
set_option maxHeartbeats 4000000 in
theorem valid0_any (st : Int) (a : Option Addr) (c : Nat) (h0 : 0 ≤ st) (h1 : st ≤ 4096) (w : World) :
    Calls Try.prog 29 #[.agg #[.int .i64 st, .slice a 0 c]] w fun e w' => e = .returned (.bool true) ∧ Below w.heap.size w w' := by
  go_enter Try.func29, Try.ntmps29
  go_wp2
  go_rounds 1
  go_ret
  exact ⟨rfl, by go_grown⟩
set_option maxHeartbeats 4000000 in
theorem valid1_any (st : Int) (B : Nat) (v : Value) (id at_ : Int) (h0 : 0 ≤ st) (h1 : st ≤ 4096) (i0 : 1 ≤ id) (t0 : 0 ≤ at_) (t1 : at_ ≤ 1099511627776) (w : World) (h : One w B v id at_) :
    Calls Try.prog 29 #[.agg #[.int .i64 st, v]] w fun e w' => e = .returned (.bool true) ∧ Below w.heap.size w w' := by
  obtain ⟨g, cap, rfl, hB, hg, hc, hm, c0, c1⟩ := h.facts
  unfold maxLen at hm
  have e1 : decide (id ≤ 0) = false := decide_eq_false (by omega)
  clear h
  go_enter Try.func29, Try.ntmps29
  go_wp2
  go_rounds 2
  all_goals go_ret
  all_goals exact ⟨rfl, by go_grown⟩
set_option maxHeartbeats 4000000 in
theorem place0_any (st id : Int) (a : Option Addr) (c : Nat) (w : World) :
    Calls Try.prog 78 #[.agg #[.int .i64 st, .slice a 0 c], .int .u64 id] w fun e w' => e = .returned (.tuple #[.int .i64 0, .bool false]) ∧ Below w.heap.size w w' := by
  go_enter Try.func78, Try.ntmps78
  go_wp2
  go_rounds 1
  go_wp2
  go_ret2
  exact ⟨rfl, by go_grown⟩
def Emp (w : World) (B : Nat) (v : Value) : Prop := w.ownsRow B 115 2 v 0 []
theorem Emp.form {w : World} {B : Nat} {v : Value} (h : Emp w B v) : ∃ (a : Option Addr) (c : Nat), v = .slice a 0 c ∧ (a = none ∧ c = 0 ∨ ∃ g, a = some ⟨g, 0, none⟩ ∧ B ≤ g ∧ g < w.heap.size) ∧ c ≤ maxLen := by
  rcases h.2 with ⟨a, _⟩ | ⟨g, cap, cur, a, b, c, d1, d2, d3, d4⟩
  · exact ⟨none, 0, a, .inl ⟨rfl, rfl⟩, Nat.zero_le _⟩
  · exact ⟨_, cap, a, .inr ⟨g, rfl, b, (Array.getElem?_eq_some_iff.1 c).1⟩, d2⟩
theorem Emp.grown {w w' : World} {B : Nat} {v : Value} (h : Emp w B v) (hB : B ≤ w.heap.size) (hg : w.grownBy w' v.ownBlock) : Below B w w' :=
  (Below.refl B w).grown hg hB (fun k hk => (h.lt k hk).1)
theorem blk2 {w : World} {x : Nat} {a b : Value} {T : TypeId} (hx : w.heap[x]? = some (.cells #[a, b] T (0, 0))) : ∀ (j : Nat) (u : Value), [a, b][j]? = some u → w.cell? ((⟨x, 0, none⟩ : Addr).add j) = some u := by
  intro j u hj
  rw [Addr.add_lit, cell_of_row w x (0 + j) _ _ (0, 0) hx]
  match j, hj with
  | 0, hj => simpa using hj
  | 1, hj => simpa using hj
set_option maxHeartbeats 4000000 in
theorem insert0_any (x B : Nat) (v : Value) (id at_ : Int) (w : World) (hv : Emp w B v) (hx : w.heap[x]? = some (.cells #[.int .u64 id, .int .i64 at_] 115 (0, 0))) (hB : B ≤ w.heap.size) :
    Calls Try.prog 79 #[v, .int .i64 0, .slice (some ⟨x, 0, none⟩) 1 1] w fun e w' => (∃ v', e = .returned v' ∧ One w' B v' id at_) ∧ Below B w w' := by
  obtain ⟨i0, hi, hz, hs2, hb2⟩ := info_parts info_sight
  obtain ⟨a, c, rfl, ha, hc⟩ := hv.form
  have HV := hid hv
  have HX := hid hx
  have HI := hid hi
  have HZ := hid hz
  have HS2 := hid hs2
  have HB2 := hid hb2
  clear hv hx hi hz hs2 hb2
  unfold maxLen at hc
  rcases ha with ⟨rfl, rfl⟩ | ⟨g, rfl, hg, hlt⟩
  all_goals
    go_enter Try.func79, Try.ntmps79
    go_wp2_with (at_builtin; refine wpList_append_own _ rfl (.tmp 23) (.tmp 24) 55 rfl B 115 i0 _ 2 16 Try.underlying55 HI.out HZ.out HS2.out HB2.out rfl (by decide) _ 0 [] rfl HV.out ⟨x, 0, none⟩ 1 1 [.int .u64 id, .int .i64 at_] rfl rfl (blk2 HX.out) (by intro u hu; simp at hu; rcases hu with rfl | rfl <;> rfl) (by decide) (by decide) hB ?_; intro v' w1 ho hg1 _; have HO := hid ho; have HG := hid (HV.out.grown hB hg1); clear ho hg1)
  all_goals go_ret
  all_goals exact ⟨⟨_, rfl, HO.out⟩, HG.out⟩
theorem istime_any (t : Int) (w : World) :
    Calls Try.prog 77 #[.int .i64 t] w fun e w' => e = .returned (.bool (decide (0 ≤ t ∧ t ≤ 1099511627776))) ∧ w = w' := by
  go_enter Try.func77, Try.ntmps77
  go_wp2
  all_goals go_ret
  all_goals refine ⟨ret_b ?_, rfl⟩
  all_goals (rw [Bool.eq_iff_iff]; simp; try omega)
set_option maxRecDepth 100000 in
theorem clone_nil (w : World) :
    Calls Try.prog 80 #[.slice none 0 0] w fun e w' => e = .returned (.slice none 0 0) ∧ w = w' := by
  have hn := fun (w : World) => Go.run_eql_nil_slice (P := Try.prog) w 55 115 none 0 0 0 0 Try.underlying55
  go_enter Try.func80, Try.ntmps80
  go_wp2
  go_ret
  exact ⟨rfl, rfl⟩
theorem One.from_ {w : World} {B B' : Nat} {v : Value} {id at_ : Int} (h : One w B v id at_) (hB : B' ≤ B) : One w B' v id at_ := by
  refine ⟨h.1, ?_⟩
  rcases h.2 with h | ⟨g, cap, cur, a, b, c⟩
  · exact .inl h
  · exact .inr ⟨g, cap, cur, a, Nat.le_trans hB b, c⟩
theorem One.set {w : World} {B c i : Nat} {v x : Value} {id at_ : Int} (h : One w B v id at_) (hc : c < B) : One (w.setCell ⟨c, i, none⟩ x) B v id at_ := by
  refine ⟨h.1, ?_⟩
  rcases h.2 with h | ⟨g, cap, cur, a, b, c', d⟩
  · exact .inl h
  · exact .inr ⟨g, cap, cur, a, b, (Below.heap_setCell _ _ _ _ (by show g ≠ c; omega)).trans c', d⟩
theorem emp_nil (w : World) (B : Nat) : Emp w B (.slice none 0 0) := ⟨rfl, .inl ⟨rfl, rfl⟩⟩
theorem Emp.kept {w w' : World} {B : Nat} {v : Value} (h : Emp w B v) (hb : Below w.heap.size w w') : Emp w' B v := by
  refine ⟨h.1, ?_⟩
  rcases h.2 with h | ⟨g, cap, cur, a, b, c, d⟩
  · exact .inl h
  · exact .inr ⟨g, cap, cur, a, b, (hb.block g (Array.getElem?_eq_some_iff.1 c).1).trans c, d⟩
set_option maxHeartbeats 4000000 in
theorem plug0_any (st id at_ : Int) (h0 : 0 ≤ st) (h1 : st ≤ 4096) (i0 : 1 ≤ id) (t0 : 0 ≤ at_) (t1 : at_ ≤ 1099511627776) (w : World) :
    Calls Try.prog 31 #[.agg #[.int .i64 st, .slice none 0 0], .int .u64 id, .int .i64 at_] w fun e w' => (∃ v', e = .returned (.tuple #[.agg #[.int .i64 st, v'], .int .i64 0]) ∧ One w' w.heap.size v' id at_) ∧ Below w.heap.size w w' := by
  have c1 := hid (fun w => valid0_any st none 0 h0 h1 w)
  have c2 := hid (fun w => place0_any st id none 0 w)
  have c3 := hid (fun w => istime_any at_ w)
  rw [show decide (0 ≤ at_ ∧ at_ ≤ 1099511627776) = true from decide_eq_true ⟨t0, t1⟩] at c3
  have e1 : (id == 0) = false := by rw [beq_eq_false_iff_ne]; omega
  have hl0 := Lv.alloc (vs := [.int .i64 0, .slice none 0 0]) (T := 57) (Lv.alloc (vs := [.int .i64 st, .slice none 0 0]) (T := 57) (Lv.start w))
  simp only [World.size_alloc] at hl0
  have HL0 := hid hl0
  clear hl0
  go_enter Try.func31, Try.ntmps31
  go_wp2_with fail
  (with_reducible refine (c1.out _).mono ?_); rintro e w1 ⟨rfl, hb⟩; have HL1 := hid (HL0.out.kept hb); clear hb HL0
  have hL := HL1.out.facts
  simp only [liveAt, cellsAt, and_true, Nat.zero_add, Nat.reduceAdd, World.size_alloc] at hL
  go_wp2_with (go_at_call 77; (with_reducible refine (c3.out _).mono ?_); rintro e w2 ⟨rfl, rfl⟩)
  (with_reducible refine (c2.out _).mono ?_); rintro e w2 ⟨rfl, hb⟩; have HL2 := hid (HL1.out.kept hb); clear hb hL
  have hL := HL2.out.facts
  simp only [liveAt, cellsAt, and_true, Nat.zero_add, Nat.reduceAdd, World.size_alloc] at hL
  go_wp2_with (go_at_call 80; (with_reducible refine (clone_nil _).mono ?_); rintro e w3 ⟨rfl, rfl⟩)
  have hz := HL2.out.size
  have hz2 := HL2.out.lt
  refine (insert0_any w2.heap.size (w2.alloc (.cells #[.int .u64 id, .int .i64 at_] 115)).heap.size _ id at_ _ (emp_nil _ _) (heap_alloc_new w2 _) (Nat.le_refl _)).mono ?_
  rintro e w3 ⟨⟨v', rfl, ho⟩, hb⟩
  have HL3 := hid ((HL2.out.kept (w' := w2.alloc (.cells #[.int .u64 id, .int .i64 at_] 115)) (by go_grown)).kept hb)
  simp only [World.size_alloc] at ho
  have HO := hid ho
  clear hL ho hb HL2
  have hL := HL3.out.facts
  simp only [liveAt, cellsAt, and_true, Nat.zero_add, Nat.reduceAdd, World.size_alloc] at hL
  have hbel := HL3.out.below
  have hz3 := HL3.out.lt
  obtain ⟨g, cap, rfl, hg, hg2, hc, hm, _, _⟩ := HO.out.facts
  go_wp2
  refine bodyPost_ret (by simp [results, Try.results31, go_sem, *]; try rfl) rfl ?_
  refine ⟨⟨_, rfl, ?_⟩, by go_grown⟩
  exact One.from_ (((HO.out.set (by omega)).set (by omega)).set (by omega)) (by omega)
end Go.Proofs.Ytnfkcfogmficfaa
