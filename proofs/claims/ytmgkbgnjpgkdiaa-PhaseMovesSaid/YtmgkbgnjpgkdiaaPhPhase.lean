/- The phases that the laws make. No statement is proved here. -/
import Derived.Test.YtmgkbgnjpgkdiaaPhMove
import Derived.Test.YtmgkbgnjpgkdiaaPhBase
namespace Go.Proofs.Ytmgkbgnjpgkdiaa
open Go.ChangeShapes Go.WideShapes Go.ChangeAt Go.RowKit
set_option linter.unusedVariables false
set_option linter.unusedSimpArgs false

set_option maxHeartbeats 8000000 in
theorem pnew_ok (n d : Int) (h : phV n d 0 0 0 = true) (w : World) :
    Calls Try.prog 19 #[.agg #[.int .i64 n, .int .i64 d]] w fun e w' => e = .returned (.tuple #[.agg #[.int .i64 n, .int .i64 d, .int .i64 0, .int .i64 0, .int .i64 0], .int .i64 0]) ∧ Below w.heap.size w w' := by
  have c1 := hid (fun w => pvalid_any n d 0 0 0 w)
  rw [h] at c1
  clear h
  have hl := Lv.alloc (vs := [.int .i64 n, .int .i64 d, .int .i64 0, .int .i64 0, .int .i64 0]) (T := 25) (Lv.alloc (vs := [.int .i64 0, .int .i64 0, .int .i64 0, .int .i64 0, .int .i64 0]) (T := 25) (Lv.alloc (vs := [.int .i64 n, .int .i64 d]) (T := 23) (Lv.start w)))
  simp only [World.size_alloc] at hl
  have HL0 := hid hl
  clear hl
  go_enter Try.func19, Try.ntmps19
  go_wp2_with fail
  (with_reducible refine (c1.out _).mono ?_); rintro e w1 ⟨rfl, hb⟩; have HL := hid (HL0.out.kept hb); clear hb c1 HL0
  have hL := HL.out.facts
  simp only [liveAt, cellsAt, and_true, Nat.zero_add, Nat.reduceAdd, World.size_alloc] at hL
  go_wp2_with fail
  have hbel := HL.out.below
  refine bodyPost_ret (by simp [results, Try.results19, go_sem, *]; try rfl) rfl ?_
  exact ⟨rfl, by go_grown⟩
set_option maxHeartbeats 8000000 in
theorem pnew_bad (n d : Int) (h : phV n d 0 0 0 = false) (w : World) :
    Calls Try.prog 19 #[.agg #[.int .i64 n, .int .i64 d]] w fun e w' => e = .returned (.tuple #[.agg #[.int .i64 0, .int .i64 0, .int .i64 0, .int .i64 0, .int .i64 0], .int .i64 1]) ∧ Below w.heap.size w w' := by
  have c1 := hid (fun w => pvalid_any n d 0 0 0 w)
  rw [h] at c1
  clear h
  have hl := Lv.alloc (vs := [.int .i64 n, .int .i64 d, .int .i64 0, .int .i64 0, .int .i64 0]) (T := 25) (Lv.alloc (vs := [.int .i64 0, .int .i64 0, .int .i64 0, .int .i64 0, .int .i64 0]) (T := 25) (Lv.alloc (vs := [.int .i64 n, .int .i64 d]) (T := 23) (Lv.start w)))
  simp only [World.size_alloc] at hl
  have HL0 := hid hl
  clear hl
  go_enter Try.func19, Try.ntmps19
  go_wp2_with fail
  (with_reducible refine (c1.out _).mono ?_); rintro e w1 ⟨rfl, hb⟩; have HL := hid (HL0.out.kept hb); clear hb c1 HL0
  have hL := HL.out.facts
  simp only [liveAt, cellsAt, and_true, Nat.zero_add, Nat.reduceAdd, World.size_alloc] at hL
  go_wp2_with fail
  have hbel := HL.out.below
  refine bodyPost_ret (by simp [results, Try.results19, go_sem, *]; try rfl) rfl ?_
  exact ⟨rfl, by go_grown⟩
set_option maxHeartbeats 8000000 in
theorem rnew_ok (n d : Int) (h : phV n d 0 0 0 = true) (w : World) :
    Calls Try.prog 20 #[.agg #[.int .i64 n, .int .i64 d]] w fun e w' => e = .returned (.tuple #[.agg #[.int .i64 n, .int .i64 d, .int .i64 0, .int .i64 0, .int .i64 0], .int .i64 0]) ∧ Below w.heap.size w w' := by
  have c1 := hid (fun w => rvalid_any n d 0 0 0 w)
  rw [h] at c1
  clear h
  have hl := Lv.alloc (vs := [.int .i64 n, .int .i64 d, .int .i64 0, .int .i64 0, .int .i64 0]) (T := 25) (Lv.alloc (vs := [.int .i64 0, .int .i64 0, .int .i64 0, .int .i64 0, .int .i64 0]) (T := 25) (Lv.alloc (vs := [.int .i64 n, .int .i64 d]) (T := 23) (Lv.start w)))
  simp only [World.size_alloc] at hl
  have HL0 := hid hl
  clear hl
  go_enter Try.func20, Try.ntmps20
  go_wp2_with fail
  (with_reducible refine (c1.out _).mono ?_); rintro e w1 ⟨rfl, hb⟩; have HL := hid (HL0.out.kept hb); clear hb c1 HL0
  have hL := HL.out.facts
  simp only [liveAt, cellsAt, and_true, Nat.zero_add, Nat.reduceAdd, World.size_alloc] at hL
  go_wp2_with fail
  have hbel := HL.out.below
  refine bodyPost_ret (by simp [results, Try.results20, go_sem, *]; try rfl) rfl ?_
  exact ⟨rfl, by go_grown⟩
set_option maxHeartbeats 8000000 in
theorem rnew_bad (n d : Int) (h : phV n d 0 0 0 = false) (w : World) :
    Calls Try.prog 20 #[.agg #[.int .i64 n, .int .i64 d]] w fun e w' => e = .returned (.tuple #[.agg #[.int .i64 0, .int .i64 0, .int .i64 0, .int .i64 0, .int .i64 0], .int .i64 1]) ∧ Below w.heap.size w w' := by
  have c1 := hid (fun w => rvalid_any n d 0 0 0 w)
  rw [h] at c1
  clear h
  have hl := Lv.alloc (vs := [.int .i64 n, .int .i64 d, .int .i64 0, .int .i64 0, .int .i64 0]) (T := 25) (Lv.alloc (vs := [.int .i64 0, .int .i64 0, .int .i64 0, .int .i64 0, .int .i64 0]) (T := 25) (Lv.alloc (vs := [.int .i64 n, .int .i64 d]) (T := 23) (Lv.start w)))
  simp only [World.size_alloc] at hl
  have HL0 := hid hl
  clear hl
  go_enter Try.func20, Try.ntmps20
  go_wp2_with fail
  (with_reducible refine (c1.out _).mono ?_); rintro e w1 ⟨rfl, hb⟩; have HL := hid (HL0.out.kept hb); clear hb c1 HL0
  have hL := HL.out.facts
  simp only [liveAt, cellsAt, and_true, Nat.zero_add, Nat.reduceAdd, World.size_alloc] at hL
  go_wp2_with fail
  have hbel := HL.out.below
  refine bodyPost_ret (by simp [results, Try.results20, go_sem, *]; try rfl) rfl ?_
  exact ⟨rfl, by go_grown⟩
theorem only_but {d : Nat} {w w' : World} (h : But d w w') : Only d w w' := ⟨h.os, h.tape, h.output, h.size, h.block⟩
theorem enter_next : ∀ (ar : Array Value) (w : World), (callFunc 39 ar).run Try.prog w = .ok (.enter 39 ar) w := by
  intro ar w
  kernel_rfl
theorem enter_rtune : ∀ (ar : Array Value) (w : World), (callFunc 16 ar).run Try.prog w = .ok (.enter 16 ar) w := by
  intro ar w
  kernel_rfl
theorem tmp_get {a : Act} {t : Tmp} {v : Value} (h : a.eval (.tmp t) = v) (ht : t < a.tmps.size) : a.tmps[t] = v := by
  rw [← h]; simp [Act.eval, ht]
abbrev I64 (n : Int) : Value := .int .i64 n
def adjOf (k : Nat) : Int := [0, 0, 1, -1, 4096, -4096, 100].getD k 0
theorem adj_bd (k : Nat) (hk : k < 7) : -4096 ≤ adjOf k ∧ adjOf k ≤ 4096 := by
  match k, hk with
  | 0, _ | 1, _ | 2, _ | 3, _ | 4, _ | 5, _ | 6, _ => decide
theorem adj_cells {w : World} {G : Nat} {T : TypeId} (h : Blk w G [.int .i64 0, .int .i64 0, .int .i64 1, .int .i64 (-1), .int .i64 4096, .int .i64 (-4096), .int .i64 100] T) : ∀ k : Nat, k < 7 → w.cell? ⟨G, k, none⟩ = some (.int .i64 (adjOf k)) := by
  intro k hk
  refine h.cell k ?_
  match k, hk with
  | 0, _ | 1, _ | 2, _ | 3, _ | 4, _ | 5, _ | 6, _ => rfl
theorem St.only {W w w' : World} {d k : Nat} (h : St W w d) (ho : Only k w w') (hk : W.heap.size ≤ k) (hd : d < W.heap.size) : St W w' d :=
  ⟨h.dice.far ho.size ho.block (by omega), ⟨ho.os.trans h.but.os, ho.tape.trans h.but.tape, ho.output.trans h.but.output, Nat.le_trans h.but.size ho.size, fun j hj hjd => (ho.block j (Nat.lt_of_lt_of_le hj h.but.size) (by omega)).trans (h.but.block j hj hjd)⟩⟩
theorem len_succ {α : Type} {n : Nat} : ∀ {l : List α}, l.length = n + 1 → ∃ a t, l = a :: t ∧ t.length = n
  | [], h => by cases h
  | a :: t, h => ⟨a, t, rfl, by simpa using h⟩
theorem arr34 (a : Array Value) (h : a.size = 34) : ∃ t0 t1 t2 t3 t4 t5 t6 t7 t8 t9 t10 t11 t12 t13 t14 t15 t16 t17 t18 t19 t20 t21 t22 t23 t24 t25 t26 t27 t28 t29 t30 t31 t32 t33 : Value, a = #[t0, t1, t2, t3, t4, t5, t6, t7, t8, t9, t10, t11, t12, t13, t14, t15, t16, t17, t18, t19, t20, t21, t22, t23, t24, t25, t26, t27, t28, t29, t30, t31, t32, t33] := by
  obtain ⟨l⟩ := a
  have hl0 : l.length = 34 := h
  obtain ⟨t0, l0, rfl, hl1⟩ := len_succ hl0
  obtain ⟨t1, l1, rfl, hl2⟩ := len_succ hl1
  obtain ⟨t2, l2, rfl, hl3⟩ := len_succ hl2
  obtain ⟨t3, l3, rfl, hl4⟩ := len_succ hl3
  obtain ⟨t4, l4, rfl, hl5⟩ := len_succ hl4
  obtain ⟨t5, l5, rfl, hl6⟩ := len_succ hl5
  obtain ⟨t6, l6, rfl, hl7⟩ := len_succ hl6
  obtain ⟨t7, l7, rfl, hl8⟩ := len_succ hl7
  obtain ⟨t8, l8, rfl, hl9⟩ := len_succ hl8
  obtain ⟨t9, l9, rfl, hl10⟩ := len_succ hl9
  obtain ⟨t10, l10, rfl, hl11⟩ := len_succ hl10
  obtain ⟨t11, l11, rfl, hl12⟩ := len_succ hl11
  obtain ⟨t12, l12, rfl, hl13⟩ := len_succ hl12
  obtain ⟨t13, l13, rfl, hl14⟩ := len_succ hl13
  obtain ⟨t14, l14, rfl, hl15⟩ := len_succ hl14
  obtain ⟨t15, l15, rfl, hl16⟩ := len_succ hl15
  obtain ⟨t16, l16, rfl, hl17⟩ := len_succ hl16
  obtain ⟨t17, l17, rfl, hl18⟩ := len_succ hl17
  obtain ⟨t18, l18, rfl, hl19⟩ := len_succ hl18
  obtain ⟨t19, l19, rfl, hl20⟩ := len_succ hl19
  obtain ⟨t20, l20, rfl, hl21⟩ := len_succ hl20
  obtain ⟨t21, l21, rfl, hl22⟩ := len_succ hl21
  obtain ⟨t22, l22, rfl, hl23⟩ := len_succ hl22
  obtain ⟨t23, l23, rfl, hl24⟩ := len_succ hl23
  obtain ⟨t24, l24, rfl, hl25⟩ := len_succ hl24
  obtain ⟨t25, l25, rfl, hl26⟩ := len_succ hl25
  obtain ⟨t26, l26, rfl, hl27⟩ := len_succ hl26
  obtain ⟨t27, l27, rfl, hl28⟩ := len_succ hl27
  obtain ⟨t28, l28, rfl, hl29⟩ := len_succ hl28
  obtain ⟨t29, l29, rfl, hl30⟩ := len_succ hl29
  obtain ⟨t30, l30, rfl, hl31⟩ := len_succ hl30
  obtain ⟨t31, l31, rfl, hl32⟩ := len_succ hl31
  obtain ⟨t32, l32, rfl, hl33⟩ := len_succ hl32
  obtain ⟨t33, l33, rfl, hl34⟩ := len_succ hl33
  obtain rfl := List.eq_nil_of_length_eq_zero hl34
  exact ⟨t0, t1, t2, t3, t4, t5, t6, t7, t8, t9, t10, t11, t12, t13, t14, t15, t16, t17, t18, t19, t20, t21, t22, t23, t24, t25, t26, t27, t28, t29, t30, t31, t32, t33, rfl⟩
theorem dcells5 {W w : World} {d b : Nat} {T : TypeId} {x0 x1 x2 x3 x4 : Int} {L : List (Nat × List Value × TypeId)} (h : DL W w d ((b, [.int .i64 x0, .int .i64 x1, .int .i64 x2, .int .i64 x3, .int .i64 x4], T) :: L)) : w.cell? ⟨b, 0, none⟩ = some (.int .i64 x0) ∧ w.cell? ⟨b, 1, none⟩ = some (.int .i64 x1) ∧ w.cell? ⟨b, 2, none⟩ = some (.int .i64 x2) ∧ w.cell? ⟨b, 3, none⟩ = some (.int .i64 x3) ∧ w.cell? ⟨b, 4, none⟩ = some (.int .i64 x4) :=
  ⟨h.cell rfl, h.cell rfl, h.cell rfl, h.cell rfl, h.cell rfl⟩
theorem DL.swap {W w : World} {d : Nat} {x y : Nat × List Value × TypeId} {L : List (Nat × List Value × TypeId)} (h : DL W w d (x :: y :: L)) : DL W w d (y :: x :: L) :=
  ⟨h.st, ⟨h.live.2.1, h.live.1, h.live.2.2⟩, fun z hz => h.far z (by simp only [List.mem_cons] at hz ⊢; rcases hz with h | h | h <;> simp [h]), h.lo⟩
theorem DL.set5 {W w : World} {d b : Nat} {T : TypeId} {z0 z1 z2 z3 z4 : Value} {x0 x1 x2 x3 x4 : Int} {L : List (Nat × List Value × TypeId)} (h : DL W w d ((b, [z0, z1, z2, z3, z4], T) :: L)) (hL : ∀ y ∈ L, y.1 ≠ b) (hb : W.heap.size ≤ b) :
    DL W (((((w.setCell ⟨b, 0, none⟩ (.int .i64 x0)).setCell ⟨b, 1, none⟩ (.int .i64 x1)).setCell ⟨b, 2, none⟩ (.int .i64 x2)).setCell ⟨b, 3, none⟩ (.int .i64 x3)).setCell ⟨b, 4, none⟩ (.int .i64 x4)) d ((b, [.int .i64 x0, .int .i64 x1, .int .i64 x2, .int .i64 x3, .int .i64 x4], T) :: L) := by
  have hlo := h.lo
  have hst : St W (((((w.setCell ⟨b, 0, none⟩ (.int .i64 x0)).setCell ⟨b, 1, none⟩ (.int .i64 x1)).setCell ⟨b, 2, none⟩ (.int .i64 x2)).setCell ⟨b, 3, none⟩ (.int .i64 x3)).setCell ⟨b, 4, none⟩ (.int .i64 x4)) d := by
    repeat' first | exact h.st | (refine DL.set ?_ hlo hb)
  have hbl : Blk w b [z0, z1, z2, z3, z4] T := h.live.1
  have hs := ((((hbl.set 0 (.int .i64 x0)).set 1 (.int .i64 x1)).set 2 (.int .i64 x2)).set 3 (.int .i64 x3)).set 4 (.int .i64 x4)
  have ho : Only b w (((((w.setCell ⟨b, 0, none⟩ (.int .i64 x0)).setCell ⟨b, 1, none⟩ (.int .i64 x1)).setCell ⟨b, 2, none⟩ (.int .i64 x2)).setCell ⟨b, 3, none⟩ (.int .i64 x3)).setCell ⟨b, 4, none⟩ (.int .i64 x4)) := only_setCells [.int .i64 x0, .int .i64 x1, .int .i64 x2, .int .i64 x3, .int .i64 x4] 0 w
  exact ⟨hst, ⟨hs, h.live.2.turn ho.block hL⟩, (fun y hy => by
    rcases List.mem_cons.1 hy with rfl | hy
    · exact hb
    · exact h.far y (List.mem_cons_of_mem _ hy)), hlo⟩
theorem cell_set5 {w : World} {b c o : Nat} {v v0 v1 v2 v3 v4 : Value} (hne : b ≠ c) (h : w.cell? ⟨c, o, none⟩ = some v) : (((((w.setCell ⟨b, 0, none⟩ v0).setCell ⟨b, 1, none⟩ v1).setCell ⟨b, 2, none⟩ v2).setCell ⟨b, 3, none⟩ v3).setCell ⟨b, 4, none⟩ v4).cell? ⟨c, o, none⟩ = some v := by
  rw [World.cell?_setCell_far _ _ _ _ hne, World.cell?_setCell_far _ _ _ _ hne, World.cell?_setCell_far _ _ _ _ hne, World.cell?_setCell_far _ _ _ _ hne, World.cell?_setCell_far _ _ _ _ hne, h]
theorem dc_set5 {w : World} {b c : Nat} {v0 v1 v2 v3 v4 x0 x1 x2 x3 x4 : Value} (h : w.cell? ⟨c, 0, none⟩ = some x0 ∧ w.cell? ⟨c, 1, none⟩ = some x1 ∧ w.cell? ⟨c, 2, none⟩ = some x2 ∧ w.cell? ⟨c, 3, none⟩ = some x3 ∧ w.cell? ⟨c, 4, none⟩ = some x4) (hne : b ≠ c) :
    (((((w.setCell ⟨b, 0, none⟩ v0).setCell ⟨b, 1, none⟩ v1).setCell ⟨b, 2, none⟩ v2).setCell ⟨b, 3, none⟩ v3).setCell ⟨b, 4, none⟩ v4).cell? ⟨c, 0, none⟩ = some x0 ∧ (((((w.setCell ⟨b, 0, none⟩ v0).setCell ⟨b, 1, none⟩ v1).setCell ⟨b, 2, none⟩ v2).setCell ⟨b, 3, none⟩ v3).setCell ⟨b, 4, none⟩ v4).cell? ⟨c, 1, none⟩ = some x1 ∧ (((((w.setCell ⟨b, 0, none⟩ v0).setCell ⟨b, 1, none⟩ v1).setCell ⟨b, 2, none⟩ v2).setCell ⟨b, 3, none⟩ v3).setCell ⟨b, 4, none⟩ v4).cell? ⟨c, 2, none⟩ = some x2 ∧ (((((w.setCell ⟨b, 0, none⟩ v0).setCell ⟨b, 1, none⟩ v1).setCell ⟨b, 2, none⟩ v2).setCell ⟨b, 3, none⟩ v3).setCell ⟨b, 4, none⟩ v4).cell? ⟨c, 3, none⟩ = some x3 ∧ (((((w.setCell ⟨b, 0, none⟩ v0).setCell ⟨b, 1, none⟩ v1).setCell ⟨b, 2, none⟩ v2).setCell ⟨b, 3, none⟩ v3).setCell ⟨b, 4, none⟩ v4).cell? ⟨c, 4, none⟩ = some x4 :=
  ⟨cell_set5 hne h.1, cell_set5 hne h.2.1, cell_set5 hne h.2.2.1, cell_set5 hne h.2.2.2.1, cell_set5 hne h.2.2.2.2⟩
structure PSt (W w : World) (P Q : Int) (d R T : Nat) : Prop where
  st : St W w d
  res : Blk w R [.int .i64 0, .int .i64 0, .int .i64 0, .int .i64 0, .int .i64 0] 25
  ph : ∃ a : Int, (-4096 ≤ a ∧ a ≤ 4096) ∧ Blk w T [.int .i64 P, .int .i64 Q, .int .i64 a, .int .i64 0, .int .i64 0] 25
  lo : d < R ∧ R < T ∧ W.heap.size ≤ R
theorem PSt.next {W w w' : World} {P Q : Int} {d R T : Nat} (h : PSt W w P Q d R T) (hk : St W w' d) (hb : But d w w') : PSt W w' P Q d R T :=
  ⟨hk, h.res.only (only_but hb) (by have := h.lo; omega), (by obtain ⟨a, h1, h2⟩ := h.ph; exact ⟨a, h1, h2.only (only_but hb) (by have := h.lo; omega)⟩), h.lo⟩
theorem PSt.kept {W w w' : World} {P Q : Int} {d R T : Nat} (h : PSt W w P Q d R T) (hb : Below w.heap.size w w') : PSt W w' P Q d R T :=
  ⟨h.st.kept hb, h.res.kept hb, (by obtain ⟨a, h1, h2⟩ := h.ph; exact ⟨a, h1, h2.kept hb⟩), h.lo⟩
def FP (P Q : Int) (d T : Nat) : Nat → Value → World → Prop
  | 0, v, _ => ∃ a : Int, v = .agg #[I64 P, I64 Q, I64 a, I64 0, I64 0] ∧ -4096 ≤ a ∧ a ≤ 4096
  | 1, v, w => ∃ G : Nat, v = .slice (some ⟨G, 0, none⟩) 7 7 ∧ Blk w G [.int .i64 0, .int .i64 0, .int .i64 1, .int .i64 (-1), .int .i64 4096, .int .i64 (-4096), .int .i64 100] 3 ∧ T < G
  | 2, v, _ => v = .pointer (some ⟨d, 0, none⟩)
  | 3, v, _ => ∃ x : Int, v = I64 x ∧ 0 ≤ x ∧ x < 7
  | 4, v, w => ∃ G x : Nat, v = .pointer (some ⟨G, x, none⟩) ∧ x < 7 ∧ Blk w G [.int .i64 0, .int .i64 0, .int .i64 1, .int .i64 (-1), .int .i64 4096, .int .i64 (-4096), .int .i64 100] 3 ∧ T < G
  | 5, v, _ => ∃ a : Int, v = I64 a ∧ -4096 ≤ a ∧ a ≤ 4096
  | 6, v, _ => ∃ a : Int, v = .tuple #[.agg #[I64 P, I64 Q, I64 a, I64 0, I64 0], I64 0] ∧ -4096 ≤ a ∧ a ≤ 4096
  | 7, v, _ => ∃ a : Int, v = .tuple #[.agg #[I64 P, I64 Q, I64 a, I64 0, I64 0], I64 0] ∧ -4096 ≤ a ∧ a ≤ 4096
  | 8, v, _ => ∃ a : Int, v = .agg #[I64 P, I64 Q, I64 a, I64 0, I64 0] ∧ -4096 ≤ a ∧ a ≤ 4096
  | _, _, _ => True
theorem FP_only {P Q : Int} {d T : Nat} {w w' : World} {k : Nat} (h : Only k w w') (hk : k ≤ T) (j : Nat) (u : Value) (hf : FP P Q d T j u w) : FP P Q d T j u w' := by
  unfold FP at *
  split at hf
  all_goals first
    | exact hf
    | (obtain ⟨G, e1, e2, e3⟩ := hf; exact ⟨G, e1, e2.only h (by omega), e3⟩)
    | (obtain ⟨G, x, e1, e2, e3, e4⟩ := hf; exact ⟨G, x, e1, e2, e3.only h (by omega), e4⟩)
theorem FP_below {P Q : Int} {d T : Nat} {w w' : World} (h : Below w.heap.size w w') (j : Nat) (u : Value) (hf : FP P Q d T j u w) : FP P Q d T j u w' := by
  unfold FP at *
  split at hf
  all_goals first
    | exact hf
    | (obtain ⟨G, e1, e2, e3⟩ := hf; exact ⟨G, e1, e2.kept h, e3⟩)
    | (obtain ⟨G, x, e1, e2, e3, e4⟩ := hf; exact ⟨G, x, e1, e2, e3.kept h, e4⟩)
theorem rt_valid {P Q a : Int} (h : Rt P Q) (ha : -4096 ≤ a ∧ a ≤ 4096) : phV P Q a 0 0 = true := by
  have := (ratV_true.1 h.1).2.1.1
  exact phV_iff.2 ⟨h.1, h.2.1, h.2.2, ha, ⟨by omega, by omega⟩, by omega, by omega⟩
theorem adv_bd {P Q a r : Int} (h : Rt P Q) (ha : -4096 ≤ a ∧ a ≤ 4096) (r0 : 0 ≤ r) (r1 : r < 60) : 0 ≤ mv P a 0 r / (Q * 65536) ∧ mv P a 0 r / (Q * 65536) ≤ 4398046511104 := by
  have h1 := (ratV_true.1 h.1).2.1.1
  have h2 := (ratV_true.1 h.1).1.1
  obtain ⟨s1, s2⟩ := step_bd h2 h.2.1 ha.1 ha.2
  unfold mv
  generalize P * (65536 + a) = S at *
  have e1 : 0 ≤ r * S := Int.mul_nonneg r0 (by omega)
  have e2 : r * S ≤ 60 * 53477376000 := Int.mul_le_mul (by omega) s2 (by omega) (by omega)
  have e3 := Int.ediv_le_self (Q * 65536) (show 0 ≤ 0 + r * S by omega)
  exact ⟨Int.ediv_nonneg (by omega) (by omega), by omega⟩
/-- what a phase is that the laws make -/
def Mph (n d a p f : Int) : Prop := phV n d a p f = true ∧ p ≤ 4398046511104
theorem mph_adv {P Q a r : Int} (h : Rt P Q) (ha : -4096 ≤ a ∧ a ≤ 4096) (r0 : 0 ≤ r) (r1 : r < 60) : Mph P Q a (0 + mv P a 0 r / (Q * 65536)) (mv P a 0 r % (Q * 65536)) := by
  obtain ⟨b1, b2⟩ := adv_bd h ha r0 r1
  have h1 := (ratV_true.1 h.1).2.1.1
  exact ⟨phV_iff.2 ⟨h.1, h.2.1, h.2.2, ha, ⟨by omega, by omega⟩, Int.emod_nonneg _ (by omega), Int.emod_lt_of_pos _ (by omega)⟩, by omega⟩
theorem madv (P Q a : Int) (h : Rt P Q) (ha : -4096 ≤ a ∧ a ≤ 4096) (r : Int) (r0 : 0 ≤ r) (r1 : r < 60) (w : World) :
    Calls Try.prog 14 #[.agg #[.int .i64 P, .int .i64 Q, .int .i64 a, .int .i64 0, .int .i64 0], .int .i64 r] w fun e w' => (∃ p f : Int, e = .returned (.tuple #[.agg #[.int .i64 P, .int .i64 Q, .int .i64 a, .int .i64 p, .int .i64 f], .int .i64 0]) ∧ Mph P Q a p f) ∧ Below w.heap.size w w' := by
  obtain ⟨b1, b2⟩ := adv_bd h ha r0 r1
  refine (radv_ok P Q a 0 0 r (rt_valid h ha) (by omega) (by omega) (by omega) w).mono ?_
  rintro e w' ⟨rfl, hb⟩
  exact ⟨⟨_, _, rfl, mph_adv h ha r0 r1⟩, hb⟩
set_option maxRecDepth 100000 in
set_option maxHeartbeats 16000000 in
theorem phase_any (w : World) (d : Nat) (h : DiceAt w d) :
    Calls Try.prog 25 #[.pointer (some ⟨d, 0, none⟩)] w fun e w' => (∃ n dd a p f : Int, e = .returned (.agg #[.int .i64 n, .int .i64 dd, .int .i64 a, .int .i64 p, .int .i64 f]) ∧ Mph n dd a p f) ∧ DiceAt w' d ∧ But d w w' := by
  have hd := h.lt
  have hl0 := (DL.start h).alloc (vs := [.int .i64 0, .int .i64 0, .int .i64 0, .int .i64 0, .int .i64 0]) (T := 25)
  have HL0 := hid hl0
  clear h hl0
  go_enter Try.func25, Try.ntmps25
  go_wp2_with fail
  (with_reducible refine (base_any _ d HL0.out.st.dice).mono ?_); rintro e w1 ⟨⟨P, Q, rfl, hRt⟩, hk, hb⟩; have HL1 := hid (HL0.out.next hk hb); clear hk hb HL0
  have HR := hid hRt
  have cN := hid (fun w => rnew_ok P Q (rt_valid hRt (by omega)) w)
  clear hRt
  go_wp2_with fail
  (with_reducible refine (cN.out _).mono ?_); rintro e w2 ⟨rfl, hb⟩; have hsz := DL.lt (HL1.out.kept hb); have HL2 := hid ((HL1.out.kept hb).alloc (vs := [.int .i64 P, .int .i64 Q, .int .i64 0, .int .i64 0, .int .i64 0]) (T := 25)); clear hb HL1 cN
  go_upto_region 2 with (fail)
  generalize hW : w2.alloc (.cells #[.int .i64 P, .int .i64 Q, .int .i64 0, .int .i64 0, .int .i64 0] 25) = W3 at *
  generalize w2.heap.size = T at *
  generalize hRR : w.heap.size = R at *
  have hI0 : PSt w W3.drew P Q d R T := ⟨HL2.out.drew.st, HL2.out.drew.live.2.1, ⟨0, by omega, HL2.out.drew.live.1⟩, hd, hsz, by omega⟩
  clear HL2 hW
  refine wp_region_facts (ops := [_, _, _, _, _, _, _, _, _, _, _]) (fun w' => PSt w w' P Q d R T) (FP P Q d T) (by kernel_rfl) (by kernel_rfl) (by kernel_rfl) hI0 ?_ ?_
  · refine ⟨?_, ?_, ?_, ?_, ?_, ?_, ?_, ?_, ?_, ?_, ?_, trivial⟩
    all_goals (intro a wx hs hdf hfar hI hdeps K hK)
    · obtain ⟨x, hx, hb⟩ := hI.ph
      have e1 := far_eval (hfar 3 (by kernel_rfl)) rfl
      have hX := hid hx
      have e1' := tmp_eval e1
      have c0 := hb.cell 0 rfl
      have c1 := hb.cell 1 rfl
      have c2 := hb.cell 2 rfl
      have c3 := hb.cell 3 rfl
      have c4 := hb.cell 4 rfl
      have HDF := hid hdf
      have HII := hid hI
      clear hdf hs hfar hdeps e1 hb hI hx
      go_simp
      exact hK _ _ HII.out ⟨x, rfl, hX.out.1, hX.out.2⟩ (fun j _ u h => h)
    · have HDF := hid hdf
      clear hdf hs hfar hdeps
      have hsz2 : T < wx.heap.size := (by obtain ⟨x, hx, hb⟩ := hI.ph; exact hb.lt)
      have HII := hid hI
      clear hI
      go_simp
      have hb : Below wx.heap.size wx (wx.alloc (.cells #[.int .i64 0, .int .i64 0, .int .i64 1, .int .i64 (-1), .int .i64 4096, .int .i64 (-4096), .int .i64 100] 3)) := by go_grown
      exact hK _ _ (HII.out.kept hb) ⟨wx.heap.size, rfl, Blk.alloc_new wx [.int .i64 0, .int .i64 0, .int .i64 1, .int .i64 (-1), .int .i64 4096, .int .i64 (-4096), .int .i64 100] 3, hsz2⟩ (fun j _ u h => FP_below hb j u h)
    · exact wp_move (.tmp 0) (.inl rfl) _ (far_eval (hfar 0 (by kernel_rfl)) rfl) (hK _ _ hI rfl (fun j _ u h => h))
    · have e1 : a.eval (.tmp 16) = .pointer (some ⟨d, 0, none⟩) := hdeps ⟨2, .data⟩ (by simp) rfl _ rfl
      refine wp_fn 39 [.tmp 16, .const (.int .i64 7)] _ rfl [.pointer (some ⟨d, 0, none⟩), .int .i64 7] (by simp only [List.map_cons, List.map_nil, e1]; rfl) enter_next (next_st w d 7 (by omega) (by omega) wx hI.st) ?_
      rintro e wy ⟨⟨r, rfl, r0, r1⟩, hst, _, _, _, hbt⟩
      exact ⟨_, rfl, hK _ _ (hI.next hst hbt) ⟨r, rfl, r0, r1⟩ (fun j hj u h => FP_only (only_but hbt) (by omega) j u h)⟩
    · obtain ⟨G, e1, hG, hTG⟩ := (hdeps ⟨1, .data⟩ (by simp) rfl _ rfl : ∃ G : Nat, a.eval (.tmp 15) = .slice (some ⟨G, 0, none⟩) 7 7 ∧ Blk wx G [.int .i64 0, .int .i64 0, .int .i64 1, .int .i64 (-1), .int .i64 4096, .int .i64 (-4096), .int .i64 100] 3 ∧ T < G)
      obtain ⟨x, e2, x0, xl⟩ := (hdeps ⟨3, .data⟩ (by simp) rfl _ rfl : ∃ x : Int, a.eval (.tmp 17) = I64 x ∧ 0 ≤ x ∧ x < 7)
      refine wp_index_addr _ 3 _ _ rfl Try.underlying30 1 (by kernel_rfl) G 0 7 7 e1 .i64 x e2 x0 (by omega) ?_
      exact hK _ _ hI ⟨G, x.toNat, by rw [Nat.zero_add, Nat.mul_one]; rfl, by omega, hG, hTG⟩ (fun j _ u h => h)
    · obtain ⟨G, x, e1, hx, hG, hTG⟩ := (hdeps ⟨4, .data⟩ (by simp) rfl _ rfl : ∃ G x : Nat, a.eval (.tmp 18) = .pointer (some ⟨G, x, none⟩) ∧ x < 7 ∧ Blk wx G [.int .i64 0, .int .i64 0, .int .i64 1, .int .i64 (-1), .int .i64 4096, .int .i64 (-4096), .int .i64 100] 3 ∧ T < G)
      have e1' := tmp_eval e1
      have hc := adj_cells hG x hx
      have hkb := hid (adj_bd x hx)
      generalize adjOf x = k at *
      have HDF := hid hdf
      have HII := hid hI
      clear hdf hs hfar hdeps e1 hG hI
      go_simp
      exact hK _ _ HII.out ⟨k, rfl, hkb.out.1, hkb.out.2⟩ (fun j _ u h => h)
    · obtain ⟨a0, e1, f0, f1⟩ := (hdeps ⟨0, .data⟩ (by simp) rfl _ rfl : ∃ x : Int, a.eval (.tmp 14) = .agg #[I64 P, I64 Q, I64 x, I64 0, I64 0] ∧ -4096 ≤ x ∧ x ≤ 4096)
      obtain ⟨a1, e2, t0, t1⟩ := (hdeps ⟨5, .data⟩ (by simp) rfl _ rfl : ∃ k : Int, a.eval (.tmp 19) = I64 k ∧ -4096 ≤ k ∧ k ≤ 4096)
      refine wp_fn 16 [.tmp 14, .tmp 19] _ rfl [.agg #[I64 P, I64 Q, I64 a0, I64 0, I64 0], .int .i64 a1] (by have e1 : a.eval (.tmp 14) = .agg #[I64 P, I64 Q, I64 a0, I64 0, I64 0] := e1; have e2 : a.eval (.tmp 19) = I64 a1 := e2; simp only [List.map_cons, List.map_nil, e1, e2]) enter_rtune (rtune_ok P Q a0 0 0 a1 (rt_valid HR.out ⟨f0, f1⟩) t0 t1 wx) ?_
      rintro e wy ⟨rfl, hb⟩
      exact ⟨_, rfl, hK _ _ (hI.kept hb) ⟨a1, rfl, t0, t1⟩ (fun j _ u h => FP_below hb j u h)⟩
    · obtain ⟨x, e1, hr⟩ := (hdeps ⟨6, .data⟩ (by simp) rfl _ rfl : ∃ x : Int, a.eval (.tmp 20) = .tuple #[.agg #[I64 P, I64 Q, I64 x, I64 0, I64 0], I64 0] ∧ -4096 ≤ x ∧ x ≤ 4096)
      exact wp_move (.tmp 20) (.inl rfl) _ e1 (hK _ _ hI ⟨x, rfl, hr⟩ (fun j _ u h => h))
    · obtain ⟨x, e1, hr⟩ := (hdeps ⟨7, .data⟩ (by simp) rfl _ rfl : ∃ x : Int, a.eval (.tmp 13) = .tuple #[.agg #[I64 P, I64 Q, I64 x, I64 0, I64 0], I64 0] ∧ -4096 ≤ x ∧ x ≤ 4096)
      have e1' := tmp_eval e1
      have HDF := hid hdf
      have HRT := hid hr
      have HII := hid hI
      clear hdf hs hfar hdeps e1 hr hI
      go_simp
      exact hK _ _ HII.out ⟨x, rfl, HRT.out⟩ (fun j _ u h => h)
    · obtain ⟨x, e1, hr⟩ := (hdeps ⟨7, .data⟩ (by simp) rfl _ rfl : ∃ x : Int, a.eval (.tmp 13) = .tuple #[.agg #[I64 P, I64 Q, I64 x, I64 0, I64 0], I64 0] ∧ -4096 ≤ x ∧ x ≤ 4096)
      have e1' := tmp_eval e1
      have HDF := hid hdf
      have HII := hid hI
      clear hdf hs hfar hdeps e1 hr hI
      go_simp
      exact hK _ _ HII.out trivial (fun j _ u h => h)
    · have e1 := far_eval (hfar 3 (by kernel_rfl)) rfl
      obtain ⟨x, e2, hr⟩ := (hdeps ⟨8, .data⟩ (by simp) rfl _ rfl : ∃ x : Int, a.eval (.tmp 21) = .agg #[I64 P, I64 Q, I64 x, I64 0, I64 0] ∧ -4096 ≤ x ∧ x ≤ 4096)
      obtain ⟨y, hy, hb⟩ := hI.ph
      refine wp_store_blk _ _ _ rfl T e1 [I64 P, I64 Q, I64 x, I64 0, I64 0] e2 _ _ hb rfl (by kernel_rfl) (by intro v hv; simp at hv; rcases hv with rfl | rfl | rfl | rfl | rfl <;> rfl) ?_
      intro w' hb' ho
      exact hK _ _ ⟨hI.st.only ho (by omega) (by omega), hI.res.only ho (by omega), ⟨x, hr, hb'⟩, hI.lo⟩ trivial (fun j hj u h => FP_only ho (by omega) j u h)
  · intro a wx hs hdf hfar hI hF
    obtain ⟨tm, df⟩ := a
    have hs : tm.size = 34 := hs
    have hdf : df = [] := hdf
    subst hdf
    obtain ⟨t0, t1, t2, t3, t4, t5, t6, t7, t8, t9, t10, t11, t12, t13, t14, t15, t16, t17, t18, t19, t20, t21, t22, t23, t24, t25, t26, t27, t28, t29, t30, t31, t32, t33, rfl⟩ := arr34 tm hs
    have e0 : t0 = .pointer (some ⟨d, 0, none⟩) := far_eval (hfar 0 (by kernel_rfl)) rfl
    have e2 : t2 = .pointer (some ⟨R, 0, none⟩) := far_eval (hfar 2 (by kernel_rfl)) rfl
    have e3 : t3 = .pointer (some ⟨T, 0, none⟩) := far_eval (hfar 3 (by kernel_rfl)) rfl
    subst e0 e2 e3
    obtain ⟨x, hx, hb⟩ := hI.ph
    have hX := hid hx
    have hl0 : DL w wx d [(T, [.int .i64 P, .int .i64 Q, .int .i64 x, .int .i64 0, .int .i64 0], 25), (R, [.int .i64 0, .int .i64 0, .int .i64 0, .int .i64 0, .int .i64 0], 25)] := ⟨hI.st, ⟨hb, hI.res, trivial⟩, by intro y hy; simp at hy; rcases hy with rfl | rfl <;> (show _ ≤ _; omega), by omega⟩
    clear hF hfar hI hs hx hb hI0
    have hl := hl0.drew
    have hc := dcells5 hl
    go_upto_region 3 with (fail)
    have hs0 := hl0.st.but.size
    have hs1 := hl.st.but.size
    have hG0 : T < wx.drew.heap.size := DL.lt hl
    have hG1 : T < wx.heap.size := hG0
    have hn1 : ¬ (wx.heap.size = R) := (by omega)
    have hn2 : ¬ (R = wx.heap.size) := (by omega)
    have hn3 : ¬ (wx.heap.size = T) := (by omega)
    have hn4 : ¬ (T = wx.heap.size) := (by omega)
    have hlt0 : R < wx.heap.size := (by omega)
    go_region_held3 (fun w' => w'.cell? ⟨T, 0, none⟩ = some (.int .i64 P) ∧ w'.cell? ⟨T, 1, none⟩ = some (.int .i64 Q) ∧ w'.cell? ⟨T, 2, none⟩ = some (.int .i64 x) ∧ w'.cell? ⟨T, 3, none⟩ = some (.int .i64 0) ∧ w'.cell? ⟨T, 4, none⟩ = some (.int .i64 0)) (first | (with_reducible assumption) | (with_reducible exact dcells5 (by assumption)) | (with_reducible exact dcells5 (DL.drop (by assumption))) | (with_reducible exact dc_set5 (by assumption) (by assumption)) | exact dcells5 (DL.drop (DL.drew (DL.alloc (vs := [.int .i64 0, .int .i64 0, .int .i64 0, .int .i64 0, .int .i64 0]) (T := 25) hl0))) | go_keep) (first
    | (go_at_call 39; (with_reducible refine (next_dl w d _ 60 (by omega) (by omega) _ hl).mono ?_); rintro e w8 ⟨⟨r, rfl, r0, r1⟩, hl⟩; have hsz := hl.st.but.size; have hGl : T < w8.heap.size := (by first | exact DL.lt hl | exact DL.lt (DL.drop hl)); have hlt1 : R < w8.heap.size := (by omega); have hn1 : ¬ (w8.heap.size = R) := (by omega); have hn2 : ¬ (R = w8.heap.size) := (by omega); have hn3 : ¬ (w8.heap.size = T) := (by omega); have hn4 : ¬ (T = w8.heap.size) := (by omega); have hL := DL.facts hl; simp only [liveAt, cellsAt, and_true, Nat.zero_add, Nat.reduceAdd] at hL)
    | (have hl := DL.alloc (vs := [.int .i64 0, .int .i64 0, .int .i64 0, .int .i64 0, .int .i64 0]) (T := 25) hl; go_at_call 39; (with_reducible refine (next_dl w d _ 60 (by omega) (by omega) _ hl).mono ?_); rintro e w8 ⟨⟨r, rfl, r0, r1⟩, hl⟩; have hsz := hl.st.but.size; have hGl : T < w8.heap.size := (by first | exact DL.lt hl | exact DL.lt (DL.drop hl)); have hlt1 : R < w8.heap.size := (by omega); have hn1 : ¬ (w8.heap.size = R) := (by omega); have hn2 : ¬ (R = w8.heap.size) := (by omega); have hn3 : ¬ (w8.heap.size = T) := (by omega); have hn4 : ¬ (T = w8.heap.size) := (by omega); have hL := DL.facts hl; simp only [liveAt, cellsAt, and_true, Nat.zero_add, Nat.reduceAdd] at hL)
    | (have hl := (DL.alloc (vs := [.int .i64 0, .int .i64 0, .int .i64 0, .int .i64 0, .int .i64 0]) (T := 25) hl0).drew; go_at_call 39; (with_reducible refine (next_dl w d _ 60 (by omega) (by omega) _ hl).mono ?_); rintro e w8 ⟨⟨r, rfl, r0, r1⟩, hl⟩; have hsz := hl.st.but.size; have hGl : T < w8.heap.size := (by first | exact DL.lt hl | exact DL.lt (DL.drop hl)); have hlt1 : R < w8.heap.size := (by omega); have hn1 : ¬ (w8.heap.size = R) := (by omega); have hn2 : ¬ (R = w8.heap.size) := (by omega); have hn3 : ¬ (w8.heap.size = T) := (by omega); have hn4 : ¬ (T = w8.heap.size) := (by omega); have hL := DL.facts hl; simp only [liveAt, cellsAt, and_true, Nat.zero_add, Nat.reduceAdd] at hL)
    | (go_at_call 14; (with_reducible refine (madv P Q x HR.out hX.out _ (by assumption) (by assumption) _).mono ?_); rintro e w9 ⟨⟨pp, ff, rfl, hM⟩, hb⟩; have HM := hid hM; clear hM; have hl := DL.kept hl hb; have hsz := hl.st.but.size; have hGl : T < w9.heap.size := (by first | exact DL.lt hl | exact DL.lt (DL.drop hl)); have hlt1 : R < w9.heap.size := (by omega); have hn1 : ¬ (w9.heap.size = R) := (by omega); have hn2 : ¬ (R = w9.heap.size) := (by omega); have hn3 : ¬ (w9.heap.size = T) := (by omega); have hn4 : ¬ (T = w9.heap.size) := (by omega); have hL := DL.facts hl; simp only [liveAt, cellsAt, and_true, Nat.zero_add, Nat.reduceAdd] at hL)
    | (have hl := DL.alloc (vs := [.int .i64 0, .int .i64 0, .int .i64 0, .int .i64 0, .int .i64 0]) (T := 25) hl; go_at_call 14; (with_reducible refine (madv P Q x HR.out hX.out _ (by assumption) (by assumption) _).mono ?_); rintro e w9 ⟨⟨pp, ff, rfl, hM⟩, hb⟩; have HM := hid hM; clear hM; have hl := DL.kept hl hb; have hsz := hl.st.but.size; have hGl : T < w9.heap.size := (by first | exact DL.lt hl | exact DL.lt (DL.drop hl)); have hlt1 : R < w9.heap.size := (by omega); have hn1 : ¬ (w9.heap.size = R) := (by omega); have hn2 : ¬ (R = w9.heap.size) := (by omega); have hn3 : ¬ (w9.heap.size = T) := (by omega); have hn4 : ¬ (T = w9.heap.size) := (by omega); have hL := DL.facts hl; simp only [liveAt, cellsAt, and_true, Nat.zero_add, Nat.reduceAdd] at hL))
    · have hD := DL.alloc (vs := [.int .i64 P, .int .i64 Q, .int .i64 x, .int .i64 pp, .int .i64 ff]) (T := 25) hl
      try simp only [World.size_alloc] at hD
      have hNT : T < w9.heap.size := by omega
      clear hL hl hl0 hc
      generalize w9.alloc (.cells #[.int .i64 P, .int .i64 Q, .int .i64 x, .int .i64 pp, .int .i64 ff] 25) = W4 at *
      generalize w9.heap.size = N at *
      have k1 : ¬ (N = T) := by omega
      have k2 : ¬ (T = N) := by omega
      have k3 : ¬ (N = R) := by omega
      have k4 : ¬ (R = N) := by omega
      have k5 : ¬ (T = R) := by omega
      have k6 : ¬ (R = T) := by omega
      have HD := hid hD
      have hL := hD.facts
      simp only [liveAt, cellsAt, and_true, Nat.zero_add, Nat.reduceAdd] at hL
      clear hD hs hs0 hs1 hG0 hG1 hb hsz hGl hlt1 hn1 hn2 hn3 hn4 r0 r1 hdf hX HR
      go_upto_region 6 with (fail)
      have hD2 := DL.set5 (x0 := P) (x1 := Q) (x2 := x) (x3 := pp) (x4 := ff) HD.out.swap (by simp; omega) (by omega)
      generalize (((((W4.setCell ⟨T, 0, none⟩ (.int .i64 P)).setCell ⟨T, 1, none⟩ (.int .i64 Q)).setCell ⟨T, 2, none⟩ (.int .i64 x)).setCell ⟨T, 3, none⟩ (.int .i64 pp)).setCell ⟨T, 4, none⟩ (.int .i64 ff)) = W5 at *
      clear hL HD
      have HD := hid hD2
      have hL := hD2.facts
      simp only [liveAt, cellsAt, and_true, Nat.zero_add, Nat.reduceAdd] at hL
      clear hD2
      go_wp2_with fail
      refine bodyPost_ret (by simp [results, Try.results25, go_sem, *]; try rfl) rfl ?_
      suffices hf : St w _ d from ⟨⟨P, Q, x, pp, ff, rfl, HM.out⟩, hf.dice, hf.but⟩
      repeat' first | exact HD.out.st | (refine DL.set ?_ (by omega) (by omega))
    · have hD := DL.set5 (x0 := P) (x1 := Q) (x2 := x) (x3 := pp) (x4 := ff) hl (by simp; omega) (by omega)
      have hNT : T < w8.heap.size := by omega
      clear hL hl hl0 hc
      generalize (((((w9.setCell ⟨w8.heap.size, 0, none⟩ (.int .i64 P)).setCell ⟨w8.heap.size, 1, none⟩ (.int .i64 Q)).setCell ⟨w8.heap.size, 2, none⟩ (.int .i64 x)).setCell ⟨w8.heap.size, 3, none⟩ (.int .i64 pp)).setCell ⟨w8.heap.size, 4, none⟩ (.int .i64 ff)) = W4 at *
      generalize w8.heap.size = N at *
      have k1 : ¬ (N = T) := by omega
      have k2 : ¬ (T = N) := by omega
      have k3 : ¬ (N = R) := by omega
      have k4 : ¬ (R = N) := by omega
      have k5 : ¬ (T = R) := by omega
      have k6 : ¬ (R = T) := by omega
      have HD := hid hD
      have hL := hD.facts
      simp only [liveAt, cellsAt, and_true, Nat.zero_add, Nat.reduceAdd] at hL
      clear hD hs hs0 hs1 hG0 hG1 hb hsz hGl hlt1 hn1 hn2 hn3 hn4 r0 r1 hdf hX HR
      go_upto_region 6 with (fail)
      have hD2 := DL.set5 (x0 := P) (x1 := Q) (x2 := x) (x3 := pp) (x4 := ff) HD.out.swap (by simp; omega) (by omega)
      generalize (((((W4.setCell ⟨T, 0, none⟩ (.int .i64 P)).setCell ⟨T, 1, none⟩ (.int .i64 Q)).setCell ⟨T, 2, none⟩ (.int .i64 x)).setCell ⟨T, 3, none⟩ (.int .i64 pp)).setCell ⟨T, 4, none⟩ (.int .i64 ff)) = W5 at *
      clear hL HD
      have HD := hid hD2
      have hL := hD2.facts
      simp only [liveAt, cellsAt, and_true, Nat.zero_add, Nat.reduceAdd] at hL
      clear hD2
      go_wp2_with fail
      refine bodyPost_ret (by simp [results, Try.results25, go_sem, *]; try rfl) rfl ?_
      suffices hf : St w _ d from ⟨⟨P, Q, x, pp, ff, rfl, HM.out⟩, hf.dice, hf.but⟩
      repeat' first | exact HD.out.st | (refine DL.set ?_ (by omega) (by omega))
    · have hD := DL.set5 (x0 := P) (x1 := Q) (x2 := x) (x3 := pp) (x4 := ff) hl (by simp; omega) (by omega)
      have hNT : T < wx.heap.size := by omega
      clear hL hl hl0 hc
      generalize (((((w9.setCell ⟨wx.heap.size, 0, none⟩ (.int .i64 P)).setCell ⟨wx.heap.size, 1, none⟩ (.int .i64 Q)).setCell ⟨wx.heap.size, 2, none⟩ (.int .i64 x)).setCell ⟨wx.heap.size, 3, none⟩ (.int .i64 pp)).setCell ⟨wx.heap.size, 4, none⟩ (.int .i64 ff)) = W4 at *
      generalize wx.heap.size = N at *
      have k1 : ¬ (N = T) := by omega
      have k2 : ¬ (T = N) := by omega
      have k3 : ¬ (N = R) := by omega
      have k4 : ¬ (R = N) := by omega
      have k5 : ¬ (T = R) := by omega
      have k6 : ¬ (R = T) := by omega
      have HD := hid hD
      have hL := hD.facts
      simp only [liveAt, cellsAt, and_true, Nat.zero_add, Nat.reduceAdd] at hL
      clear hD hs hs0 hs1 hG0 hG1 hb hsz hGl hlt1 hn1 hn2 hn3 hn4 r0 r1 hdf hX HR
      go_upto_region 6 with (fail)
      have hD2 := DL.set5 (x0 := P) (x1 := Q) (x2 := x) (x3 := pp) (x4 := ff) HD.out.swap (by simp; omega) (by omega)
      generalize (((((W4.setCell ⟨T, 0, none⟩ (.int .i64 P)).setCell ⟨T, 1, none⟩ (.int .i64 Q)).setCell ⟨T, 2, none⟩ (.int .i64 x)).setCell ⟨T, 3, none⟩ (.int .i64 pp)).setCell ⟨T, 4, none⟩ (.int .i64 ff)) = W5 at *
      clear hL HD
      have HD := hid hD2
      have hL := hD2.facts
      simp only [liveAt, cellsAt, and_true, Nat.zero_add, Nat.reduceAdd] at hL
      clear hD2
      go_wp2_with fail
      refine bodyPost_ret (by simp [results, Try.results25, go_sem, *]; try rfl) rfl ?_
      suffices hf : St w _ d from ⟨⟨P, Q, x, pp, ff, rfl, HM.out⟩, hf.dice, hf.but⟩
      repeat' first | exact HD.out.st | (refine DL.set ?_ (by omega) (by omega))
end Go.Proofs.Ytmgkbgnjpgkdiaa
