/- Run over a block of one channel. No statement is proved here. -/
import Derived.Test.YtndppaldjfggbaaGainRunA
import Derived.Deep.DeepCutAuto
namespace Go.Proofs.Ytndppaldjfggbaa
open Go.ChangeShapes Go.WideShapes Go.ChangeAt Go.RowKit
set_option linter.unusedVariables false
set_option linter.unusedSimpArgs false

theorem cellsB {W w : World} {b7 b3 b2 b1 : Nat} {T7 T3 T2 T1 : TypeId} {v7 v3 v2 : List Value} {x y : Value} {L : List (Nat × List Value × TypeId)} (h : Lv W w ((b7, v7, T7) :: (b3, v3, T3) :: (b2, v2, T2) :: (b1, [x, y], T1) :: L)) : w.cell? ⟨b1, 0, none⟩ = some x ∧ w.cell? ⟨b1, 1, none⟩ = some y := by
  have hL := h.drop.drop.drop.facts
  simp only [liveAt, cellsAt, Nat.zero_add] at hL
  exact ⟨hL.1.1, hL.1.2.2.1⟩
theorem Lv.swap {W w : World} {x y : Nat × List Value × TypeId} {L : List (Nat × List Value × TypeId)} (h : Lv W w (x :: y :: L)) : Lv W w (y :: x :: L) := ⟨h.below, h.live.2.1, h.live.1, h.live.2.2⟩
theorem Lv.setAt {W w : World} {b k : Nat} {v : Value} {vs : List Value} {T : TypeId} {L : List (Nat × List Value × TypeId)} (h : Lv W w ((b, vs, T) :: L)) (hL : ∀ y ∈ L, y.1 ≠ b) (hb : W.heap.size ≤ b) : Lv W (w.setCell ⟨b, k, none⟩ v) ((b, vs.set k v, T) :: L) := by
  have hbl : Blk w b vs T := h.live.1
  have hs := hbl.set k v
  have ho : Only b w (w.setCell ⟨b, k, none⟩ v) := only_setCells [v] k w
  exact ⟨h.below.trans (ho.below hb h.below.size), hs, h.live.2.turn ho.block hL⟩
theorem c3s {W w : World} {G O B7 B3 B2 B1 : Nat} {TG TO T7 T3 T2 T1 : TypeId} {d v7 v3 v2 : List Value} {x y x1 y1 z : Value} {p : Addr} {L : List (Nat × List Value × TypeId)} (h : Lv W w ((G, d, TG) :: (O, [x1, y1], TO) :: (B7, v7, T7) :: (B3, v3, T3) :: (B2, v2, T2) :: (B1, [x, y], T1) :: L)) (hz : w.cell? p = some z) :
    w.cell? ⟨O, 1, none⟩ = some y1 ∧ w.cell? ⟨B1, 1, none⟩ = some y ∧ w.cell? p = some z := by
  have hL := h.drop.facts
  simp only [liveAt, cellsAt, Nat.zero_add] at hL
  have hL2 := h.drop.drop.drop.drop.drop.facts
  simp only [liveAt, cellsAt, Nat.zero_add] at hL2
  exact ⟨hL.1.2.2.1, hL2.1.2.2.1, hz⟩
theorem c3drew {w : World} {O B1 b j : Nat} {x y z : Value} (h : w.cell? ⟨O, 1, none⟩ = some x ∧ w.cell? ⟨B1, 1, none⟩ = some y ∧ w.cell? ⟨b, j, none⟩ = some z) : w.drew.cell? ⟨O, 1, none⟩ = some x ∧ w.drew.cell? ⟨B1, 1, none⟩ = some y ∧ w.drew.cell? ⟨b, j, none⟩ = some z := h
theorem c3set {w : World} {O B1 b G k j : Nat} {v x y z : Value} (h : w.cell? ⟨O, 1, none⟩ = some x ∧ w.cell? ⟨B1, 1, none⟩ = some y ∧ w.cell? ⟨b, j, none⟩ = some z) (h1 : G ≠ O) (h2 : G ≠ B1) (h3 : G ≠ b) :
    (w.setCell ⟨G, k, none⟩ v).cell? ⟨O, 1, none⟩ = some x ∧ (w.setCell ⟨G, k, none⟩ v).cell? ⟨B1, 1, none⟩ = some y ∧ (w.setCell ⟨G, k, none⟩ v).cell? ⟨b, j, none⟩ = some z :=
  ⟨(World.cell?_setCell_far _ _ _ _ h1).trans h.1, (World.cell?_setCell_far _ _ _ _ h2).trans h.2.1, (World.cell?_setCell_far _ _ _ _ h3).trans h.2.2⟩
theorem c4s {W w : World} {G O B7 B3 B2 B1 : Nat} {TG TO T7 T3 T2 T1 : TypeId} {d vO v3 v2 : List Value} {x y a m f t : Value} {L : List (Nat × List Value × TypeId)} (h : Lv W w ((G, d, TG) :: (O, vO, TO) :: (B7, [a, m, f, t], T7) :: (B3, v3, T3) :: (B2, v2, T2) :: (B1, [x, y], T1) :: L)) :
    w.cell? ⟨B7, 0, none⟩ = some a ∧ w.cell? ⟨B7, 1, none⟩ = some m ∧ w.cell? ⟨B1, 0, none⟩ = some x ∧ w.cell? ⟨B1, 1, none⟩ = some y := by
  have hL := h.drop.drop.facts
  simp only [liveAt, cellsAt, Nat.zero_add, Nat.reduceAdd] at hL
  have hL2 := h.drop.drop.drop.drop.drop.facts
  simp only [liveAt, cellsAt, Nat.zero_add] at hL2
  exact ⟨hL.1.1, hL.1.2.2.1, hL2.1.1, hL2.1.2.2.1⟩
theorem c4set {w : World} {B7 B1 c o : Nat} {v a m x y : Value} (h : w.cell? ⟨B7, 0, none⟩ = some a ∧ w.cell? ⟨B7, 1, none⟩ = some m ∧ w.cell? ⟨B1, 0, none⟩ = some x ∧ w.cell? ⟨B1, 1, none⟩ = some y) (h1 : c ≠ B7) (h2 : c ≠ B1) :
    (w.setCell ⟨c, o, none⟩ v).cell? ⟨B7, 0, none⟩ = some a ∧ (w.setCell ⟨c, o, none⟩ v).cell? ⟨B7, 1, none⟩ = some m ∧ (w.setCell ⟨c, o, none⟩ v).cell? ⟨B1, 0, none⟩ = some x ∧ (w.setCell ⟨c, o, none⟩ v).cell? ⟨B1, 1, none⟩ = some y :=
  ⟨(World.cell?_setCell_far _ _ _ _ h1).trans h.1, (World.cell?_setCell_far _ _ _ _ h1).trans h.2.1, (World.cell?_setCell_far _ _ _ _ h2).trans h.2.2.1, (World.cell?_setCell_far _ _ _ _ h2).trans h.2.2.2⟩
theorem c0fz {W w : World} {G O B7 B3 B2 B1 B0 : Nat} {TG TO T7 T3 T2 T1 T0 : TypeId} {d vO v7 v3 v2 v1 : List Value} {f t m a : Value} {L : List (Nat × List Value × TypeId)} (h : Lv W w ((G, d, TG) :: (O, vO, TO) :: (B7, v7, T7) :: (B3, v3, T3) :: (B2, v2, T2) :: (B1, v1, T1) :: (B0, [f, t, m, a], T0) :: L)) :
    w.cell? ⟨B0, 3, none⟩ = some a ∧ w.frozen? ⟨B0, 3, none⟩ = false := by
  have hL := h.drop.drop.drop.drop.drop.drop.facts
  simp only [liveAt, cellsAt, Nat.zero_add, Nat.reduceAdd] at hL
  exact ⟨hL.1.2.2.2.2.2.2.1, hL.1.2.2.2.2.2.2.2.1⟩
theorem Lv.setBlk {W w : World} {b k : Nat} {v : Value} {vs : List Value} {T : TypeId} {L : List (Nat × List Value × TypeId)} (h : Lv W w L) (hbl : Blk w b vs T) (hL : ∀ y ∈ L, y.1 ≠ b) (hb : W.heap.size ≤ b) : Lv W (w.setCell ⟨b, k, none⟩ v) ((b, vs.set k v, T) :: L) := by
  have hs := hbl.set k v
  have ho : Only b w (w.setCell ⟨b, k, none⟩ v) := only_setCells [v] k w
  exact ⟨h.below.trans (ho.below hb h.below.size), hs, h.live.turn ho.block hL⟩
theorem c6s {W w : World} {B0 O : Nat} {T0 TO : TypeId} {f t m a x y : Value} {L : List (Nat × List Value × TypeId)} (h : Lv W w ((B0, [f, t, m, a], T0) :: (O, [x, y], TO) :: L)) :
    w.cell? ⟨O, 0, none⟩ = some x ∧ w.cell? ⟨O, 1, none⟩ = some y ∧ w.cell? ⟨B0, 0, none⟩ = some f ∧ w.cell? ⟨B0, 1, none⟩ = some t ∧ w.cell? ⟨B0, 2, none⟩ = some m ∧ w.cell? ⟨B0, 3, none⟩ = some a := by
  have hL := h.facts
  simp only [liveAt, cellsAt, Nat.zero_add, Nat.reduceAdd] at hL
  exact ⟨hL.2.1.1, hL.2.1.2.2.1, hL.1.1, hL.1.2.2.1, hL.1.2.2.2.2.1, hL.1.2.2.2.2.2.2.1⟩
theorem c6set {w : World} {O B0 c o : Nat} {v x y f t m a : Value} (h : w.cell? ⟨O, 0, none⟩ = some x ∧ w.cell? ⟨O, 1, none⟩ = some y ∧ w.cell? ⟨B0, 0, none⟩ = some f ∧ w.cell? ⟨B0, 1, none⟩ = some t ∧ w.cell? ⟨B0, 2, none⟩ = some m ∧ w.cell? ⟨B0, 3, none⟩ = some a) (h1 : c ≠ O) (h2 : c ≠ B0) :
    (w.setCell ⟨c, o, none⟩ v).cell? ⟨O, 0, none⟩ = some x ∧ (w.setCell ⟨c, o, none⟩ v).cell? ⟨O, 1, none⟩ = some y ∧ (w.setCell ⟨c, o, none⟩ v).cell? ⟨B0, 0, none⟩ = some f ∧ (w.setCell ⟨c, o, none⟩ v).cell? ⟨B0, 1, none⟩ = some t ∧ (w.setCell ⟨c, o, none⟩ v).cell? ⟨B0, 2, none⟩ = some m ∧ (w.setCell ⟨c, o, none⟩ v).cell? ⟨B0, 3, none⟩ = some a :=
  ⟨(World.cell?_setCell_far _ _ _ _ h1).trans h.1, (World.cell?_setCell_far _ _ _ _ h1).trans h.2.1, (World.cell?_setCell_far _ _ _ _ h2).trans h.2.2.1, (World.cell?_setCell_far _ _ _ _ h2).trans h.2.2.2.1, (World.cell?_setCell_far _ _ _ _ h2).trans h.2.2.2.2.1, (World.cell?_setCell_far _ _ _ _ h2).trans h.2.2.2.2.2⟩
theorem c6drew {w : World} {O B0 : Nat} {x y f t m a : Value} (h : w.cell? ⟨O, 0, none⟩ = some x ∧ w.cell? ⟨O, 1, none⟩ = some y ∧ w.cell? ⟨B0, 0, none⟩ = some f ∧ w.cell? ⟨B0, 1, none⟩ = some t ∧ w.cell? ⟨B0, 2, none⟩ = some m ∧ w.cell? ⟨B0, 3, none⟩ = some a) :
    w.drew.cell? ⟨O, 0, none⟩ = some x ∧ w.drew.cell? ⟨O, 1, none⟩ = some y ∧ w.drew.cell? ⟨B0, 0, none⟩ = some f ∧ w.drew.cell? ⟨B0, 1, none⟩ = some t ∧ w.drew.cell? ⟨B0, 2, none⟩ = some m ∧ w.drew.cell? ⟨B0, 3, none⟩ = some a := h
theorem cell_al {w : World} {o : Obj} {p : Addr} {v : Value} (h : w.cell? p = some v) : (w.alloc o).cell? p = some v := by rw [World.cell?_alloc_some w p o (by rw [h]; rfl), h]
theorem ck_alloc {w : World} {o : Obj} {b1 : Nat} {x y : Value} (h : w.cell? ⟨b1, 0, none⟩ = some x ∧ w.cell? ⟨b1, 1, none⟩ = some y) : (w.alloc o).cell? ⟨b1, 0, none⟩ = some x ∧ (w.alloc o).cell? ⟨b1, 1, none⟩ = some y := ⟨cell_al h.1, cell_al h.2⟩
theorem ck_drew {w : World} {b1 : Nat} {x y : Value} (h : w.cell? ⟨b1, 0, none⟩ = some x ∧ w.cell? ⟨b1, 1, none⟩ = some y) : w.drew.cell? ⟨b1, 0, none⟩ = some x ∧ w.drew.cell? ⟨b1, 1, none⟩ = some y := h
theorem ck_set {w : World} {b1 c o : Nat} {v x y : Value} (h : w.cell? ⟨b1, 0, none⟩ = some x ∧ w.cell? ⟨b1, 1, none⟩ = some y) (hne : c ≠ b1) : (w.setCell ⟨c, o, none⟩ v).cell? ⟨b1, 0, none⟩ = some x ∧ (w.setCell ⟨c, o, none⟩ v).cell? ⟨b1, 1, none⟩ = some y :=
  ⟨(World.cell?_setCell_far _ _ _ _ hne).trans h.1, (World.cell?_setCell_far _ _ _ _ hne).trans h.2⟩
set_option maxRecDepth 100000 in
set_option maxHeartbeats 16000000 in
theorem run1_any (f t m a : Int) (w : World) (b off n cap : Nat) (l : List Int) (hv : validG f t m a = true) (hs : Sl .i32 w (some ⟨b, off, none⟩) n cap l) (hn : n ≤ 65536) (hl : ∀ k, k < n → sampleB (l.getD k 0) = true) :
    Calls Try.prog 31 #[.agg #[.int .i64 f, .int .i64 t, .int .i64 m, .int .i64 a], .agg #[.int .i64 1, .slice (some ⟨b, off, none⟩) n cap]] w fun e w' => (∃ g : Nat, e = .returned (.tuple #[.agg #[.int .i64 1, .slice (some ⟨g, 0, none⟩) n n], .agg #[.int .i64 f, .int .i64 t, .int .i64 m, .int .i64 (aftG a m n)], .int .i64 0])) ∧ Below w.heap.size w w' := by
  have HS := hid hs
  have HB := hid hl
  have hcap : n ≤ cap := hs.2.1
  have hcm : cap ≤ 9223372036854775807 := by have := hs.2.2.1; unfold maxLen at this; omega
  obtain ⟨_, _, m0, m1, a0, a1⟩ := validG_iff.1 hv
  have cv := hid (fun w => valid_any f t m a w)
  rw [hv] at cv
  have cc := hid (fun w => course_any f t m a w)
  have cg := hid (fun (i : Int) (h0 : 0 ≤ i) (h1 : i ≤ 9223372036854775807) w => cgain_any f t m a i hv h0 h1 w)
  have ca := hid (fun w => after_any a m n a0 a1 m1 (by omega) (by omega) w)
  have hl0 : Lv w ((((w.alloc (.cells #[.int .i64 f, .int .i64 t, .int .i64 m, .int .i64 a] 31)).alloc (.cells #[.int .i64 1, .slice (some ⟨b, off, none⟩) n cap] 44)).alloc (.cells #[.int .i64 0, .slice none 0 0] 44)).alloc (.cells #[.int .i64 0, .int .i64 0, .int .i64 0, .int .i64 0] 31)) [(w.heap.size + 1 + 1 + 1, [.int .i64 0, .int .i64 0, .int .i64 0, .int .i64 0], 31), (w.heap.size + 1 + 1, [.int .i64 0, .slice none 0 0], 44), (w.heap.size + 1, [.int .i64 1, .slice (some ⟨b, off, none⟩) n cap], 44), (w.heap.size, [.int .i64 f, .int .i64 t, .int .i64 m, .int .i64 a], 31)] := by
    have h := Lv.alloc (vs := [.int .i64 0, .int .i64 0, .int .i64 0, .int .i64 0]) (T := 31) (Lv.alloc (vs := [.int .i64 0, .slice none 0 0]) (T := 44) (Lv.alloc (vs := [.int .i64 1, .slice (some ⟨b, off, none⟩) n cap]) (T := 44) (Lv.alloc (vs := [.int .i64 f, .int .i64 t, .int .i64 m, .int .i64 a]) (T := 31) (Lv.start w))))
    simp only [World.size_alloc] at h
    exact h
  have HL0 := hid hl0
  have e1 : (n : Int).tmod 1 = 0 := Int.tmod_one _
  have e2 : (n : Int).tdiv 1 = n := Int.tdiv_one _
  clear hs hl hl0 hv
  go_enter Try.func31, Try.ntmps31
  go_wp2_with fail
  (with_reducible refine (cv.out _).mono ?_); rintro e w1 ⟨rfl, hb⟩; have HL1 := hid (HL0.out.kept hb); clear hb HL0 cv
  have hL := HL1.out.facts
  simp only [liveAt, cellsAt, and_true, Nat.zero_add, Nat.reduceAdd, World.size_alloc] at hL
  go_wp2_with fail
  (with_reducible refine (svalid_any _ b off n cap l (HS.out.below HL1.out.below) hn HB.out).mono ?_); rintro e w2 ⟨rfl, hb⟩; have HL2 := hid (HL1.out.kept hb); clear hb HL1 hL
  have hL := HL2.out.facts
  simp only [liveAt, cellsAt, and_true, Nat.zero_add, Nat.reduceAdd, World.size_alloc] at hL
  go_wp2_with fail
  (with_reducible refine (cc.out _).mono ?_); rintro e w3 ⟨rfl, hb⟩; have hl37 := (HL2.out.kept hb).lt; have HL3 := hid (Lv.alloc (vs := [.int .i64 a, .int .i64 m, .int .i64 f, .int .i64 t]) (T := 70) (HL2.out.kept hb)); clear hb HL2 hL cc
  go_upto_region 4 with (fail)
  have hmk : ∀ w : World, (Instr.makeSlice 25 (.int .i64 (n : Int)) (.int .i64 (n : Int))).run Try.prog w = .ok (.slice (some ⟨w.heap.size, 0, none⟩) n n) (w.alloc (.cells (List.replicate n (Value.int .i32 0)).toArray 21)) := by
    intro w
    have h := run_make_lc (P := Try.prog) (t := 25) (e := 21) (z := .int .i32 0) (bs := 4) Try.underlying25 (by kernel_rfl) (n : Int) (n : Int) n n rfl rfl (Nat.le_refl _) (by omega) (by omega) w
    have e : madeCells (Value.int .i32 0).cells n = (List.replicate n (Value.int .i32 0)).toArray := by
      apply Array.ext'
      exact toList_madeCells_one (Value.int .i32 0) n
    rw [e] at h
    exact h
  have hl := HL3.out.drew
  have hlA := HL3.out
  have hsz := HL3.out.size
  clear HL3
  have hc := cellsB hl
  generalize w3.alloc (.cells #[.int .i64 a, .int .i64 m, .int .i64 f, .int .i64 t] 70) = W3 at *
  generalize w3.heap.size = B7 at *
  have hlt7 : B7 < W3.heap.size := hlA.lt
  have hltB := (Lv.lt (Lv.drop hlA))
  have hB7 : w.heap.size + 1 + 1 + 1 < B7 := hl37
  have hb1 : w.heap.size < w.heap.size + 1 := by omega
  have hb2 : w.heap.size + 1 < w.heap.size + 1 + 1 := by omega
  have hb3 : w.heap.size + 1 + 1 < w.heap.size + 1 + 1 + 1 := by omega
  generalize w.heap.size + 1 + 1 + 1 = B3 at *
  generalize w.heap.size + 1 + 1 = B2 at *
  generalize w.heap.size + 1 = B1 at *
  clear hltB
  have hc0 := cellsB hlA
  have hz1 : B1 < W3.heap.size := by omega
  have hz2 : B1 < W3.drew.heap.size := hz1
  go_region_held3 (fun w' => w'.cell? ⟨B1, 0, none⟩ = some (.int .i64 1) ∧ w'.cell? ⟨B1, 1, none⟩ = some (.slice (some ⟨b, off, none⟩) n cap)) (first | (with_reducible assumption) | (with_reducible exact cellsB (by assumption)) | (with_reducible exact ck_drew (ck_alloc hc0)) | (with_reducible exact ck_drew (ck_alloc (ck_alloc hc0))) | (with_reducible exact ck_alloc (by assumption)) | (with_reducible exact ck_set (ck_set (by assumption) (by omega)) (by omega)) | go_keep) (fail)
  all_goals (first
    | (have h5 := (((hlA.alloc (vs := List.replicate n (.int .i32 0)) (T := 21)).alloc (vs := [.int .i64 1, .slice (some ⟨W3.heap.size, 0, none⟩) n n]) (T := 44)).drew).swap
       simp only [World.size_alloc, List.toArray_replicate] at h5
       obtain ⟨W5, hW5⟩ : ∃ W5 : World, ((W3.alloc (Obj.cells (Array.replicate n (Value.int IntKind.i32 0)) 21)).alloc (Obj.cells #[Value.int IntKind.i64 1, Value.slice (some ⟨W3.heap.size, 0, none⟩) n n] 44)).drew = W5 := ⟨_, rfl⟩
       rw [hW5] at h5 ⊢
       clear hW5
       obtain ⟨O, hO⟩ : ∃ O, W3.heap.size + 1 = O := ⟨_, rfl⟩
       obtain ⟨G, hG⟩ : ∃ G, W3.heap.size = G := ⟨_, rfl⟩
       rw [hO, hG] at h5
       simp only [hO]
       simp only [hG]
       have hOG : G ≠ O := by omega)
    | (have h5 := ((hlA.alloc (vs := [.int .i64 1, .slice (some ⟨W3.heap.size + 1, 0, none⟩) n n]) (T := 44)).alloc (vs := List.replicate n (.int .i32 0)) (T := 21)).drew
       simp only [World.size_alloc, List.toArray_replicate] at h5
       obtain ⟨W5, hW5⟩ : ∃ W5 : World, ((W3.alloc (Obj.cells #[Value.int IntKind.i64 1, Value.slice (some ⟨W3.heap.size + 1, 0, none⟩) n n] 44)).alloc (Obj.cells (Array.replicate n (Value.int IntKind.i32 0)) 21)).drew = W5 := ⟨_, rfl⟩
       rw [hW5] at h5 ⊢
       clear hW5
       obtain ⟨G, hG⟩ : ∃ G, W3.heap.size + 1 = G := ⟨_, rfl⟩
       obtain ⟨O, hO⟩ : ∃ O, W3.heap.size = O := ⟨_, rfl⟩
       rw [hG, hO] at h5
       simp only [hG]
       simp only [hO]
       have hOG : G ≠ O := by omega))
  all_goals (
    have HL5 := hid h5
    have hGb : B7 < G := by omega
    have hOb : B7 < O := by omega
    have hbG : b < w.heap.size ∨ n = 0 := by
      rcases HS.out.2.2.2.2.2 with h | ⟨b', off', he, hbl, _⟩
      · exact .inr h
      · cases he; exact .inl hbl
    clear h5 hlA hc0 hc hG hO hz1 hz2 hlt7 hmk hl37
    clear hl
    have hL := HL5.out.drop.facts
    simp only [liveAt, cellsAt, and_true, Nat.zero_add, Nat.reduceAdd] at hL
    go_wp2_with fail
    clear hL
    go_loopw [37] (fun v wr => ∃ (x : Nat) (d : List Value), x ≤ n ∧ d.length = n ∧ v = .int .i64 x ∧ Hid (Lv w wr [(G, d, 21), (O, [.int .i64 1, .slice (some ⟨G, 0, none⟩) n n], 44), (B7, [.int .i64 a, .int .i64 m, .int .i64 f, .int .i64 t], 70), (B3, [.int .i64 0, .int .i64 0, .int .i64 0, .int .i64 0], 31), (B2, [.int .i64 0, .slice none 0 0], 44), (B1, [.int .i64 1, .slice (some ⟨b, off, none⟩) n cap], 44), (w.heap.size, [.int .i64 f, .int .i64 t, .int .i64 m, .int .i64 a], 31)])) (fun v _ => n - (intOf v).toNat)
    case atStart => exact ⟨0, _, by omega, by simp, rfl, HL5⟩
    case round =>
      obtain ⟨x, d, hx, hd, rfl, hl⟩ := hrel
      clear HL5
      obtain ⟨wo, rfl⟩ : ∃ wo : World, wo = wr := ⟨_, rfl⟩
      have hL := hl.out.drop.facts
      simp only [liveAt, cellsAt, and_true, Nat.zero_add, Nat.reduceAdd] at hL
      by_cases hlt : x < n
      · have hkb : decide ((x : Int) < (n : Int)) = true := by simp; omega
        have c1 := hid (fun w => cg.out (x : Int) (by omega) (by omega) w)
        generalize atG f t m a (x : Int) = g at *
        go_wp2_with fail
        (with_reducible refine (c1.out _).mono ?_); rintro e w4 ⟨rfl, hb⟩; have K1 := hid (hl.out.kept hb); clear hb c1 hl hL
        have hL := K1.out.drop.facts
        simp only [liveAt, cellsAt, and_true, Nat.zero_add, Nat.reduceAdd] at hL
        go_wp2_with fail
        clear hL
        go_loopw [11] (fun v wr => ∃ (k : Nat) (d : List Value), (k = x ∨ k = x + 1) ∧ d.length = n ∧ v = .int .i64 k ∧ Hid (Lv w wr [(G, d, 21), (O, [.int .i64 1, .slice (some ⟨G, 0, none⟩) n n], 44), (B7, [.int .i64 a, .int .i64 m, .int .i64 f, .int .i64 t], 70), (B3, [.int .i64 0, .int .i64 0, .int .i64 0, .int .i64 0], 31), (B2, [.int .i64 0, .slice none 0 0], 44), (B1, [.int .i64 1, .slice (some ⟨b, off, none⟩) n cap], 44), (w.heap.size, [.int .i64 f, .int .i64 t, .int .i64 m, .int .i64 a], 31)])) (fun v _ => x + 1 - (intOf v).toNat)
        case atStart => exact ⟨x, d, .inl rfl, hd, rfl, K1⟩
        case round =>
          obtain ⟨k, d, hk, hd, rfl, hl⟩ := hrel
          clear K1
          obtain ⟨wp, rfl⟩ : ∃ wp : World, wp = wr := ⟨_, rfl⟩
          rcases hk with rfl | rfl
          · have h6 := (HS.out.below hl.out.drew.below).2.2.2.2.2
            rcases h6 with h6 | ⟨b', off', he, hbl, hcs⟩
            · omega
            · cases he
              have g0 := hcs k hlt
              have hv := HB.out k hlt
              generalize l.getD k 0 = v at *
              have hv2 := sampleB_iff.1 hv
              have cA := hid (fun w => apply_any v g (by omega) w)
              generalize applyG v g = r at *
              have hkz : (k : Int) < (n : Int) := by omega
              have hkn : (k : Int) < (k : Int) + 1 := by omega
              have hblk : Blk wp.drew G d 21 := hl.out.drew.live.1
              have hdk : k < d.length := by omega
              have hcg : wp.drew.cell? ⟨G, k, none⟩ = some d[k] := hblk.cell k (List.getElem?_eq_getElem hdk)
              have hfz : wp.drew.frozen? ⟨G, k, none⟩ = false := hblk.frozen k
              generalize d[k] = dk at *
              have hld := hl.out.drew
              have hc3 := c3s hld g0
              have hc3n := c3s hl.out (show wp.cell? ⟨b, off + k, none⟩ = some (.int .i32 v) from g0)
              have hGO : G ≠ O := hOG
              have hGB : G ≠ B1 := by omega
              have hGb2 : G ≠ b := by omega
              have HC := hid hcs
              have HX := hid hblk
              have hL := hl.out.drop.facts
              simp only [liveAt, cellsAt, and_true, Nat.zero_add, Nat.reduceAdd] at hL
              clear hcs hv hv2 hblk
              go_upto_region 12 with (fail)
              clear hL
              go_region_held3 (fun w' => w'.cell? ⟨O, 1, none⟩ = some (.slice (some ⟨G, 0, none⟩) n n) ∧ w'.cell? ⟨B1, 1, none⟩ = some (.slice (some ⟨b, off, none⟩) n cap) ∧ w'.cell? ⟨b, off + k, none⟩ = some (.int .i32 v)) (first | (with_reducible assumption) | (with_reducible exact c3drew (c3set hc3n (by assumption) (by assumption) (by assumption)))) (first
                | (go_at_call 14; (with_reducible refine (cA.out _).mono ?_); rintro e w8 ⟨rfl, rfl⟩))
              have K2 := hid (Lv.setAt (k := k) (v := .int .i32 r) hl.out (by simp; omega) (by omega)).drew
              clear hld hc3 hc3n hcg hfz hl
              go_wp2_with fail
              go_roundw
              case rel => first | exact ⟨k + 1, _, .inr rfl, by simp [hd], by go_num, K2⟩ | ((repeat apply Exists.intro); exact ⟨⟨k + 1, _, .inr rfl, by simp [hd], by go_num, K2⟩, rfl⟩)
              case measure => simp [intOf] <;> omega
          · have hL := hl.out.drop.facts
            simp only [liveAt, cellsAt, and_true, Nat.zero_add, Nat.reduceAdd] at hL
            go_wp2_with fail
            go_roundw
            case rel => first | exact ⟨x + 1, d, by omega, hd, by go_num, hl⟩ | ((repeat apply Exists.intro); exact ⟨⟨x + 1, d, by omega, hd, by go_num, hl⟩, rfl⟩)
            case measure => simp [intOf] <;> omega
      · have hkb : decide ((x : Int) < (n : Int)) = false := by simp; omega
        obtain rfl : x = n := by omega
        have hfd : ∀ (y z : Int) (w : World), (Instr.field 68 (.agg #[.int .i64 y, .int .i64 z]) 0).run Try.prog w = .ok (.int .i64 y) w := fun _ _ _ => by kernel_rfl
        have uw : IntKind.i64.wrap (x : Int) = x := IntWalk.i64_in _ (by omega)
        clear hL
        go_upto_region 14 with (fail)
        have hq := hl.out.drew
        have hc4 := c4s hq
        clear hl
        go_region_held3 (fun w' => w'.cell? ⟨B7, 0, none⟩ = some (.int .i64 a) ∧ w'.cell? ⟨B7, 1, none⟩ = some (.int .i64 m) ∧ w'.cell? ⟨B1, 0, none⟩ = some (.int .i64 1) ∧ w'.cell? ⟨B1, 1, none⟩ = some (.slice (some ⟨b, off, none⟩) x cap)) (first | (with_reducible assumption) | (with_reducible exact c4s (by assumption)) | (with_reducible exact c4set (by assumption) (by omega) (by omega))) (first
          | (go_at_call 45; (with_reducible refine (ca.out _).mono ?_); rintro e w8 ⟨rfl, hb⟩; have hq := Lv.kept hq hb; have hB0 := (c0fz hq); clear hb))
        obtain ⟨hB1, hB2⟩ := hB0
        have hO2 := Lv.setBlk (k := 3) (v := .int .i64 (aftG a m x)) (b := w.heap.size) (vs := [.int .i64 f, .int .i64 t, .int .i64 m, .int .i64 a]) (T := 31) (L := [(O, [.int .i64 1, .slice (some ⟨G, 0, none⟩) x x], 44), (B3, [.int .i64 0, .int .i64 0, .int .i64 0, .int .i64 0], 31), (B2, [.int .i64 0, .slice none 0 0], 44)]) ⟨hq.below, hq.live.2.1, hq.live.2.2.2.1, hq.live.2.2.2.2.1, trivial⟩ hq.live.2.2.2.2.2.2.1 (by simp; omega) (Nat.le_refl _)
        clear hq hc4 hB1 hB2
        go_upto_region 15 with (fail)
        generalize w8.setCell ⟨w.heap.size, 3, none⟩ (.int .i64 (aftG a m x)) = W6 at *
        generalize hA : aftG a m x = aft at *
        have HO := hid hO2
        have hL := hO2.drew.facts
        simp only [liveAt, cellsAt, and_true, Nat.zero_add, Nat.reduceAdd, List.set_cons_succ, List.set_cons_zero] at hL
        have hc6 := c6s hO2.drew
        clear hO2
        have hc6n := c6s HO.out
        have hLn := HO.out.facts
        simp only [liveAt, cellsAt, and_true, Nat.zero_add, Nat.reduceAdd, List.set_cons_succ, List.set_cons_zero] at hLn
        have k1 : ¬ (B2 = w.heap.size) := by omega
        have k2 : ¬ (B3 = w.heap.size) := by omega
        have k3 : ¬ (B2 = O) := by omega
        have k4 : ¬ (B3 = O) := by omega
        have k5 : ¬ (B2 = B3) := by omega
        have k6 : ¬ (B3 = B2) := by omega
        go_region_held3 (fun w' => w'.cell? ⟨O, 0, none⟩ = some (.int .i64 1) ∧ w'.cell? ⟨O, 1, none⟩ = some (.slice (some ⟨G, 0, none⟩) x x) ∧ w'.cell? ⟨w.heap.size, 0, none⟩ = some (.int .i64 f) ∧ w'.cell? ⟨w.heap.size, 1, none⟩ = some (.int .i64 t) ∧ w'.cell? ⟨w.heap.size, 2, none⟩ = some (.int .i64 m) ∧ w'.cell? ⟨w.heap.size, 3, none⟩ = some (.int .i64 aft)) (first | (with_reducible assumption) | (with_reducible exact c6drew (c6set (c6set hc6n (by omega) (by omega)) (by omega) (by omega))) | (with_reducible exact c6drew (c6set (c6set (c6set (c6set hc6n (by omega) (by omega)) (by omega) (by omega)) (by omega) (by omega)) (by omega) (by omega))) | (with_reducible exact c6drew (c6set (c6set (c6set (c6set (c6set (c6set hc6n (by omega) (by omega)) (by omega) (by omega)) (by omega) (by omega)) (by omega) (by omega)) (by omega) (by omega)) (by omega) (by omega))) | go_keep) (fail)
        all_goals (
          clear hc6 hc6n
          go_wp2_with fail
          have hbel := HO.out.below
          have l2 : w.heap.size ≤ B2 := by omega
          have l3 : w.heap.size ≤ B3 := by omega
          refine bodyPost_ret (by simp [results, Try.results31, go_sem, *]; try rfl) rfl ?_
          clear hL hLn
          exact ⟨⟨G, by rw [hA]⟩, by go_grown⟩))
end Go.Proofs.Ytndppaldjfggbaa
