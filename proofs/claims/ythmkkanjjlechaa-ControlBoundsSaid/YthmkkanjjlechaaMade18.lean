/- What the controls of the laws are made of: no statement is proved here. -/
import Derived.Test.YthmkkanjjlechaaControl
import Derived.Test.YthmkkanjjlechaaDiceSt
import Derived.Test.YthmkkanjjlechaaFacts
import Derived.Outline
namespace Go.Proofs.Ythmkkanjjlechaa
open Go.ChangeShapes Go.WideShapes Go.ChangeAt Go.RowKit
set_option linter.unusedVariables false
set_option linter.unusedSimpArgs false
/-- one of the cells of a list that was written out, read in a later world -/
theorem pick_cell {w0 w' : World} {d : Nat} {T : TypeId} (L : List Value) (hc : ∀ b o, b < (w0.alloc (.cells L.toArray T)).heap.size → b ≠ d → w'.cell? ⟨b, o, none⟩ = (w0.alloc (.cells L.toArray T)).cell? ⟨b, o, none⟩) (hd : d < w0.heap.size) (i : Nat) (v : Value) (hv : L[i]? = some v) :
    w'.cell? ⟨w0.heap.size, i, none⟩ = some v := by
  rw [hc _ _ (by simp) (by omega), cell_of_row _ w0.heap.size i _ T (0, 0) (heap_alloc_new w0 _)]
  simpa using hv
theorem int_pick {k : IntKind} (L : List Int) (x : Int) (h0 : 0 ≤ x) (h1 : x < L.length) : ∃ v, (L.map (Value.int k))[x.toNat]? = some (.int k v) ∧ v ∈ L := by
  have h : x.toNat < L.length := by omega
  exact ⟨L[x.toNat], by simp [h], List.getElem_mem h⟩
abbrev I64 (n : Int) : Value := .int .i64 n
def LitA : List Value := [I64 64, I64 1, I64 294, I64 5, I64 1, I64 64, I64 1024, I64 3]
def LitB : List Value := [I64 0, I64 66, I64 100, I64 4096, I64 2000]
def PerOk (n d : Int) : Prop := (n = 64 ∧ d = 1) ∨ (n = 294 ∧ d = 5) ∨ (n = 1 ∧ d = 64) ∨ (n = 1024 ∧ d = 3)
def F18 (d R2 R3 : Nat) (c : List Value) : Nat → Value → World → Prop
  | 0, v, _ => v = .agg c.toArray
  | 1, v, _ => v = .agg #[I64 64, I64 1]
  | 2, v, _ => v = .agg #[I64 294, I64 5]
  | 3, v, _ => v = .agg #[I64 1, I64 64]
  | 4, v, _ => v = .agg #[I64 1024, I64 3]
  | 5, v, w => ∃ b, v = .slice (some ⟨b, 0, none⟩) 4 4 ∧ (b ≠ d ∧ b ≠ R2 ∧ b ≠ R3) ∧ Blk w b LitA 27
  | 7, v, _ => ∃ x : Int, v = I64 x ∧ 0 ≤ x ∧ x < 4
  | 8, v, w => ∃ (b x : Nat), v = .pointer (some ⟨b, x * 2, none⟩) ∧ x < 4 ∧ (b ≠ d ∧ b ≠ R2 ∧ b ≠ R3) ∧ Blk w b LitA 27
  | 9, v, _ => ∃ n e : Int, v = .agg #[I64 n, I64 e] ∧ PerOk n e
  | 10, v, w => ∃ b, v = .slice (some ⟨b, 0, none⟩) 5 5 ∧ (b ≠ d ∧ b ≠ R2 ∧ b ≠ R3) ∧ Blk w b LitB 3
  | 12, v, _ => ∃ x : Int, v = I64 x ∧ 0 ≤ x ∧ x < 5
  | 13, v, w => ∃ (b x : Nat), v = .pointer (some ⟨b, x, none⟩) ∧ x < 5 ∧ (b ≠ d ∧ b ≠ R2 ∧ b ≠ R3) ∧ Blk w b LitB 3
  | 14, v, _ => ∃ k : Int, v = I64 k ∧ k ∈ [(0 : Int), 66, 100, 4096, 2000]
  | 16, v, _ => ∃ j : Int, v = I64 j ∧ 0 ≤ j ∧ j < 20
  | 17, _, w => Blk w R2 c 23
  | 18, _, w => ∃ n e : Int, Blk w R3 [I64 n, I64 e] 27 ∧ PerOk n e
  | 19, v, _ => ∃ k : Int, v = I64 k ∧ k ∈ [(0 : Int), 66, 100, 4096, 2000]
  | 20, v, _ => ∃ j : Int, v = I64 j ∧ 0 ≤ j ∧ j < 20
  | _, v, _ => v = .pointer (some ⟨d, 0, none⟩)
theorem F18_only {d R2 R3 : Nat} {c : List Value} {w w' : World} {k : Nat} (h : Only k w w') (h2 : d ≠ R2) (h3 : d ≠ R3) (h4 : R2 ≠ R3) (hk : k = d ∨ k = R2 ∨ k = R3) (j : Nat) (hj : (k = R2 → j ≠ 17) ∧ (k = R3 → j ≠ 18)) (u : Value) (hf : F18 d R2 R3 c j u w) : F18 d R2 R3 c j u w' := by
  unfold F18 at *
  split at hf
  all_goals first
    | exact hf
    | (obtain ⟨b, x, e1, e2, ⟨e3, e4, e5⟩, e6⟩ := hf; exact ⟨b, x, e1, e2, ⟨e3, e4, e5⟩, e6.only h (by omega)⟩)
    | (obtain ⟨b, e1, ⟨e3, e4, e5⟩, e6⟩ := hf; exact ⟨b, e1, ⟨e3, e4, e5⟩, e6.only h (by omega)⟩)
    | (obtain ⟨n, e, e1, e2⟩ := hf; exact ⟨n, e, e1.only h (by omega), e2⟩)
    | exact hf.only h (by omega)
structure I18 (W w0 : World) (d R2 R3 C : Nat) (c : List Value) (w : World) : Prop where
  st : St W w d
  size : w0.heap.size ≤ w.heap.size
  con : Blk w C c 23
  r2 : ∃ c0 c1 c2 c3 : Value, Blk w R2 [c0, c1, c2, c3] 23
  r3 : ∃ c0 c1 : Value, Blk w R3 [c0, c1] 27
  lo : d < W.heap.size ∧ W.heap.size ≤ R2 ∧ R2 < R3 ∧ R3 < C ∧ C < w0.heap.size
theorem info_ratio : (Try.prog.info? 27).map (fun i => (i.zero, i.size, i.bytes)) = some (some (.agg #[I64 0, I64 0]), 2, 16) := by kernel_rfl
theorem I18.kept {W w0 w w' : World} {d R2 R3 C : Nat} {c : List Value} (h : I18 W w0 d R2 R3 C c w) (hb : Below w.heap.size w w') : I18 W w0 d R2 R3 C c w' := by
  obtain ⟨h1, h2, h3, ⟨c0, c1, c2, c3, h4⟩, ⟨b0, b1, h5⟩, h6⟩ := h
  exact ⟨h1.kept hb, Nat.le_trans h2 hb.size, h3.kept hb, ⟨c0, c1, c2, c3, h4.kept hb⟩, ⟨b0, b1, h5.kept hb⟩, h6⟩
theorem only_of_but {d : Nat} {w w' : World} (h : But d w w') : Only d w w' := ⟨h.os, h.tape, h.output, h.size, h.block⟩
theorem I18.next {W w0 w w' : World} {d R2 R3 C : Nat} {c : List Value} (h : I18 W w0 d R2 R3 C c w) (hk : DiceAt w' d) (hb : But d w w') : I18 W w0 d R2 R3 C c w' := by
  obtain ⟨h1, h2, h3, ⟨c0, c1, c2, c3, h4⟩, ⟨b0, b1, h5⟩, h6⟩ := h
  have ho := only_of_but hb
  exact ⟨h1.next hk hb, Nat.le_trans h2 hb.size, h3.only ho (by omega), ⟨c0, c1, c2, c3, h4.only ho (by omega)⟩, ⟨b0, b1, h5.only ho (by omega)⟩, h6⟩
theorem St.far {W w w' : World} {d R : Nat} (h : St W w d) (ho : Only R w w') (hd : d < R) (hR : W.heap.size ≤ R) : St W w' d :=
  ⟨h.dice.far ho.size ho.block hd, ⟨ho.os.trans h.but.os, ho.tape.trans h.but.tape, ho.output.trans h.but.output, Nat.le_trans h.but.size ho.size, fun k hk hkd => (ho.block k (Nat.lt_of_lt_of_le hk h.but.size) (by omega)).trans (h.but.block k hk hkd)⟩⟩
theorem I18.store2 {W w0 w w' : World} {d R2 R3 C : Nat} {c : List Value} {c0 c1 c2 c3 : Value} (h : I18 W w0 d R2 R3 C c w) (hb : Blk w' R2 [c0, c1, c2, c3] 23) (ho : Only R2 w w') : I18 W w0 d R2 R3 C c w' := by
  obtain ⟨h1, h2, h3, _, ⟨b0, b1, h5⟩, h6⟩ := h
  exact ⟨h1.far ho (by omega) (by omega), Nat.le_trans h2 ho.size, h3.only ho (by omega), ⟨_, _, _, _, hb⟩, ⟨b0, b1, h5.only ho (by omega)⟩, h6⟩
theorem I18.store3 {W w0 w w' : World} {d R2 R3 C : Nat} {c : List Value} {c0 c1 : Value} (h : I18 W w0 d R2 R3 C c w) (hb : Blk w' R3 [c0, c1] 27) (ho : Only R3 w w') : I18 W w0 d R2 R3 C c w' := by
  obtain ⟨h1, h2, h3, ⟨c0, c1, c2, c3, h4⟩, _, h6⟩ := h
  exact ⟨h1.far ho (by omega) (by omega), Nat.le_trans h2 ho.size, h3.only ho (by omega), ⟨c0, c1, c2, c3, h4.only ho (by omega)⟩, ⟨_, _, hb⟩, h6⟩
theorem enter_next : ∀ (ar : Array Value) (w : World), (callFunc 26 ar).run Try.prog w = .ok (.enter 26 ar) w := by
  intro ar w
  kernel_rfl
theorem info_int : (Try.prog.info? 3).map (fun i => (i.zero, i.size, i.bytes)) = some (some (I64 0), 1, 8) := by kernel_rfl
theorem I18.away {W w0 w : World} {d R2 R3 C : Nat} {c : List Value} (h : I18 W w0 d R2 R3 C c w) : w.heap.size ≠ d ∧ w.heap.size ≠ R2 ∧ w.heap.size ≠ R3 := by
  have := h.lo; have := h.size; omega
/-- what 'made' gives -/
def MadeC (w : World) (d : Nat) (e : Ending) (w' : World) : Prop := (∃ t c g m pn pd k j : Int, e = .returned (.tuple #[.agg #[.int .i64 t, .int .i64 c, .int .i64 g, .int .i64 m], .agg #[.int .i64 pn, .int .i64 pd], .int .i64 k, .int .i64 j]) ∧
  (0 ≤ t ∧ t ≤ 2040) ∧ (0 ≤ c ∧ c ≤ 59) ∧ (1 ≤ g ∧ g ≤ 200) ∧ m ∈ [(0 : Int), 100, 4096, 67] ∧ PerOk pn pd ∧ k ∈ [(0 : Int), 66, 100, 4096, 2000] ∧ 0 ≤ j ∧ j < 20) ∧ DiceAt w' d ∧ But d w w'
set_option maxRecDepth 100000 in
set_option maxHeartbeats 8000000 in
theorem made18_any (w : World) (d : Nat) (h : DiceAt w d) :
    Calls Try.prog 14 #[.pointer (some ⟨d, 0, none⟩)] w (MadeC w d) := by
  have HS := hid (St.start h)
  have hd := h.lt
  clear h
  go_enter Try.func14, Try.ntmps14
  go_wp2_with fail
  (with_reducible refine (next_st w d _ (by omega) (by omega) _ (HS.out.kept (by go_grown))).mono ?_); rintro e w1 ⟨⟨x1, rfl, h10, h11⟩, hs, hc1, hf1, hz1, hb1⟩; have HS := hid hs; clear hs
  have G2 := hid ((((Blk.alloc_new w [I64 0, I64 0, I64 0, I64 0] 23).kept (by go_grown)).only (only_of_but hb1) (by omega)))
  have G3 := hid (((Blk.alloc_new (w.alloc (.cells #[I64 0, I64 0, I64 0, I64 0] 23)) [I64 0, I64 0] 27).only (only_of_but hb1) (by simp; omega)))
  clear hc1 hf1 hb1
  have hz1' : w.heap.size + 2 ≤ w1.heap.size := by simpa using hz1
  clear hz1
  go_wp2_with fail
  (with_reducible refine (next_st w d _ (by omega) (by omega) _ (HS.out.kept (by go_grown))).mono ?_); rintro e w2 ⟨⟨x2, rfl, h20, h21⟩, hs, hc2, hf2, hz2, hb2⟩; have HS := hid hs; clear hs
  go_wp2_with fail
  (with_reducible refine (next_st w d _ (by omega) (by omega) _ (HS.out.kept (by go_grown))).mono ?_); rintro e w3 ⟨⟨x3, rfl, h30, h31⟩, hs, hc3, hf3, hz3, hb3⟩; have HS := hid hs; clear hs
  have G2 := hid ((G2.out.only (only_of_but hb2) (by omega)).only (only_of_but hb3) (by omega))
  have G3 := hid ((G3.out.only (only_of_but hb2) (by simp; omega)).only (only_of_but hb3) (by simp; omega))
  clear hc2 hf2 hc3 hf3 hb2 hb3
  go_wp2_with fail
  (with_reducible refine (next_st w d _ (by omega) (by omega) _ (HS.out.kept (by go_grown))).mono ?_); rintro e w4 ⟨⟨x4, rfl, h40, h41⟩, hs, hc4, hf4, hz4, hb4⟩; have HS := hid hs; clear hs
  obtain ⟨m, hm, hmL⟩ := int_pick (k := .i64) [0, 100, 4096, 67] x4 h40 (by simpa using h41)
  have hcm := pick_cell ([0, 100, 4096, 67].map (Value.int .i64)) hc4 (by omega) _ _ hm
  have G2 := hid ((G2.out.kept (by go_grown)).only (only_of_but hb4) (by omega))
  have G3 := hid ((G3.out.kept (by go_grown)).only (only_of_but hb4) (by simp; omega))
  clear hc4 hf4 hm hb4
  have hmL' := hid hmL
  clear hmL
  go_wp2_with fail
  clear hcm
  generalize hR2 : w.heap.size = R2 at *
  have hI0 : I18 w (w4.alloc (.cells #[I64 (x1 * 8), I64 x2, I64 (1 + x3), I64 m] 23)) d R2 (R2 + 1) w4.heap.size [I64 (x1 * 8), I64 x2, I64 (1 + x3), I64 m] (w4.alloc (.cells #[I64 (x1 * 8), I64 x2, I64 (1 + x3), I64 m] 23)).drew := by
    have hb : Below w4.heap.size w4 (w4.alloc (.cells #[I64 (x1 * 8), I64 x2, I64 (1 + x3), I64 m] 23)).drew := by go_grown
    have g3 := G3.out
    simp only [World.size_alloc, hR2] at g3
    simp only [World.size_alloc] at hz4
    refine ⟨HS.out.kept hb, Nat.le_refl _, Blk.alloc_new _ _ _, ⟨_, _, _, _, G2.out.kept hb⟩, ⟨_, _, g3.kept hb⟩, by simp; omega⟩
  generalize hC : w4.heap.size = C at *
  have hn2 : d ≠ R2 := by omega
  have hn3 : d ≠ R2 + 1 := by omega
  refine wp_region_facts (ops := [_, _, _, _, _, _, _, _, _, _, _, _, _, _, _, _, _, _, _, _, _]) (I18 w _ d R2 (R2 + 1) C [I64 (x1 * 8), I64 x2, I64 (1 + x3), I64 m]) (F18 d R2 (R2 + 1) [I64 (x1 * 8), I64 x2, I64 (1 + x3), I64 m]) (by kernel_rfl) (by kernel_rfl) (by kernel_rfl) hI0 ?_ ?_
  · refine ⟨?_, ?_, ?_, ?_, ?_, ?_, ?_, ?_, ?_, ?_, ?_, ?_, ?_, ?_, ?_, ?_, ?_, ?_, ?_, ?_, ?_, trivial⟩
    all_goals (intro a wx hs hdf hfar hI hdeps K hK)
    · have e6 := far_eval (hfar 6 (by kernel_rfl)) rfl
      exact wp_load_blk _ _ rfl C 0 e6 _ _ _ hI.con (fun j v h => by simpa using h) _ Try.underlying23 rfl (by kernel_rfl) (hK _ _ hI rfl (fun j _ u h => h))
    · have HDF := hid hdf; clear hdf hs hfar hdeps; go_simp; exact hK _ _ hI rfl (fun j _ u h => h)
    · have HDF := hid hdf; clear hdf hs hfar hdeps; go_simp; exact hK _ _ hI rfl (fun j _ u h => h)
    · have HDF := hid hdf; clear hdf hs hfar hdeps; go_simp; exact hK _ _ hI rfl (fun j _ u h => h)
    · have HDF := hid hdf; clear hdf hs hfar hdeps; go_simp; exact hK _ _ hI rfl (fun j _ u h => h)
    · have e1 : a.eval (.tmp 22) = .agg #[I64 64, I64 1] := hdeps ⟨1, .data⟩ (by simp) rfl _ rfl
      have e2 : a.eval (.tmp 23) = .agg #[I64 294, I64 5] := hdeps ⟨2, .data⟩ (by simp) rfl _ rfl
      have e3 : a.eval (.tmp 24) = .agg #[I64 1, I64 64] := hdeps ⟨3, .data⟩ (by simp) rfl _ rfl
      have e4 : a.eval (.tmp 25) = .agg #[I64 1024, I64 3] := hdeps ⟨4, .data⟩ (by simp) rfl _ rfl
      obtain ⟨ie, hie, hz, hsz, _⟩ := info_parts info_ratio
      refine wp_buildSlice _ 27 4 _ rfl LitA.toArray ie _ Try.underlying37 hie hz (by rw [hsz]; decide) (by rw [hsz]; decide) ?_ ?_
      · rw [hsz]; simp only [List.map_toArray, List.map_cons, List.map_nil, e1, e2, e3, e4]; kernel_rfl
      · have hb : Below wx.heap.size wx (wx.alloc (.cells LitA.toArray 27)) := by go_grown
        exact hK _ _ (hI.kept hb) ⟨_, rfl, hI.away, Blk.alloc_new _ _ _⟩ (fun j hj u h => F18_only (Only.of_below hb) hn2 hn3 (by omega) (.inl rfl) j ⟨fun e => absurd e hn2, fun e => absurd e hn3⟩ u h)
    · exact wp_move (.tmp 0) (.inl rfl) _ (far_eval (hfar 0 (by kernel_rfl)) rfl) (hK _ _ hI rfl (fun j _ u h => h))
    · have e1 : a.eval (.tmp 27) = .pointer (some ⟨d, 0, none⟩) := hdeps ⟨6, .data⟩ (by simp) rfl _ rfl
      refine wp_fn 26 [.tmp 27, .const (.int .i64 4)] _ rfl [.pointer (some ⟨d, 0, none⟩), .int .i64 4] (by simp only [List.map_cons, List.map_nil, e1]; rfl) enter_next (next_any d 4 (by omega) (by omega) wx hI.st.dice) ?_
      rintro e wy ⟨⟨r, rfl, r0, r1⟩, hdk, hbt⟩
      exact ⟨_, rfl, hK _ _ (hI.next hdk hbt) ⟨r, rfl, r0, r1⟩ (fun j hj u h => F18_only (only_of_but hbt) hn2 hn3 (by omega) (.inl rfl) j ⟨fun e => absurd e hn2, fun e => absurd e hn3⟩ u h)⟩
    · obtain ⟨b, e1, haw, hb⟩ := (hdeps ⟨5, .data⟩ (by simp) rfl _ rfl : ∃ b, a.eval (.tmp 26) = .slice (some ⟨b, 0, none⟩) 4 4 ∧ (b ≠ d ∧ b ≠ R2 ∧ b ≠ R2 + 1) ∧ Blk wx b LitA 27)
      obtain ⟨x, e2, x0, xl⟩ := (hdeps ⟨7, .data⟩ (by simp) rfl _ rfl : ∃ x : Int, a.eval (.tmp 28) = I64 x ∧ 0 ≤ x ∧ x < 4)
      refine wp_index_addr _ 27 _ _ rfl Try.underlying37 2 (by kernel_rfl) b 0 4 4 e1 .i64 x e2 x0 (by omega) ?_
      exact hK _ _ hI ⟨b, x.toNat, by rw [Nat.zero_add]; rfl, by omega, haw, hb⟩ (fun j _ u h => h)
    · obtain ⟨b, x, e1, hx, haw, hb⟩ := (hdeps ⟨8, .data⟩ (by simp) rfl _ rfl : ∃ (b x : Nat), a.eval (.tmp 29) = .pointer (some ⟨b, x * 2, none⟩) ∧ x < 4 ∧ (b ≠ d ∧ b ≠ R2 ∧ b ≠ R2 + 1) ∧ Blk wx b LitA 27)
      have hx' : x = 0 ∨ x = 1 ∨ x = 2 ∨ x = 3 := by omega
      rcases hx' with rfl | rfl | rfl | rfl
      · exact wp_load_blk _ _ rfl b (0 * 2) e1 [I64 64, I64 1] LitA _ hb (two_of rfl rfl) _ Try.underlying27 rfl (by kernel_rfl) (hK _ _ hI ⟨64, 1, rfl, .inl ⟨rfl, rfl⟩⟩ (fun j _ u h => h))
      · exact wp_load_blk _ _ rfl b (1 * 2) e1 [I64 294, I64 5] LitA _ hb (two_of rfl rfl) _ Try.underlying27 rfl (by kernel_rfl) (hK _ _ hI ⟨294, 5, rfl, .inr (.inl ⟨rfl, rfl⟩)⟩ (fun j _ u h => h))
      · exact wp_load_blk _ _ rfl b (2 * 2) e1 [I64 1, I64 64] LitA _ hb (two_of rfl rfl) _ Try.underlying27 rfl (by kernel_rfl) (hK _ _ hI ⟨1, 64, rfl, .inr (.inr (.inl ⟨rfl, rfl⟩))⟩ (fun j _ u h => h))
      · exact wp_load_blk _ _ rfl b (3 * 2) e1 [I64 1024, I64 3] LitA _ hb (two_of rfl rfl) _ Try.underlying27 rfl (by kernel_rfl) (hK _ _ hI ⟨1024, 3, rfl, .inr (.inr (.inr ⟨rfl, rfl⟩))⟩ (fun j _ u h => h))
    · obtain ⟨ie, hie, hz, hsz, _⟩ := info_parts info_int
      refine wp_buildSlice _ 3 5 _ rfl LitB.toArray ie _ Try.underlying33 hie hz (by rw [hsz]; decide) (by rw [hsz]; decide) ?_ ?_
      · rw [hsz]; simp only [List.map_toArray, List.map_cons, List.map_nil, Act.eval]; kernel_rfl
      · have hb : Below wx.heap.size wx (wx.alloc (.cells LitB.toArray 3)) := by go_grown
        exact hK _ _ (hI.kept hb) ⟨_, rfl, hI.away, Blk.alloc_new _ _ _⟩ (fun j hj u h => F18_only (Only.of_below hb) hn2 hn3 (by omega) (.inl rfl) j ⟨fun e => absurd e hn2, fun e => absurd e hn3⟩ u h)
    · exact wp_move (.tmp 0) (.inl rfl) _ (far_eval (hfar 0 (by kernel_rfl)) rfl) (hK _ _ hI rfl (fun j _ u h => h))
    · have e1 : a.eval (.tmp 32) = .pointer (some ⟨d, 0, none⟩) := hdeps ⟨11, .data⟩ (by simp) rfl _ rfl
      refine wp_fn 26 [.tmp 32, .const (.int .i64 5)] _ rfl [.pointer (some ⟨d, 0, none⟩), .int .i64 5] (by simp only [List.map_cons, List.map_nil, e1]; rfl) enter_next (next_any d 5 (by omega) (by omega) wx hI.st.dice) ?_
      rintro e wy ⟨⟨r, rfl, r0, r1⟩, hdk, hbt⟩
      exact ⟨_, rfl, hK _ _ (hI.next hdk hbt) ⟨r, rfl, r0, r1⟩ (fun j hj u h => F18_only (only_of_but hbt) hn2 hn3 (by omega) (.inl rfl) j ⟨fun e => absurd e hn2, fun e => absurd e hn3⟩ u h)⟩
    · obtain ⟨b, e1, haw, hb⟩ := (hdeps ⟨10, .data⟩ (by simp) rfl _ rfl : ∃ b, a.eval (.tmp 31) = .slice (some ⟨b, 0, none⟩) 5 5 ∧ (b ≠ d ∧ b ≠ R2 ∧ b ≠ R2 + 1) ∧ Blk wx b LitB 3)
      obtain ⟨x, e2, x0, xl⟩ := (hdeps ⟨12, .data⟩ (by simp) rfl _ rfl : ∃ x : Int, a.eval (.tmp 33) = I64 x ∧ 0 ≤ x ∧ x < 5)
      refine wp_index_addr _ 3 _ _ rfl Try.underlying33 1 (by kernel_rfl) b 0 5 5 e1 .i64 x e2 x0 (by omega) ?_
      exact hK _ _ hI ⟨b, x.toNat, by rw [Nat.zero_add, Nat.mul_one]; rfl, by omega, haw, hb⟩ (fun j _ u h => h)
    · obtain ⟨b, x, e1, hx, haw, hb⟩ := (hdeps ⟨13, .data⟩ (by simp) rfl _ rfl : ∃ (b x : Nat), a.eval (.tmp 34) = .pointer (some ⟨b, x, none⟩) ∧ x < 5 ∧ (b ≠ d ∧ b ≠ R2 ∧ b ≠ R2 + 1) ∧ Blk wx b LitB 3)
      have e1' := tmp_eval e1
      obtain ⟨k, hk, hkm⟩ := int_pick (k := .i64) [0, 66, 100, 4096, 2000] (x : Int) (by omega) (by simp; omega)
      have hc : wx.cell? ⟨b, x, none⟩ = some (.int .i64 k) := hb.cell x (by simpa [LitB] using hk)
      have HDF := hid hdf
      have HM := hid hkm
      clear hdf hs hfar hdeps hk e1 hkm
      go_simp
      exact hK _ _ hI ⟨k, rfl, HM.out⟩ (fun j _ u h => h)
    · exact wp_move (.tmp 0) (.inl rfl) _ (far_eval (hfar 0 (by kernel_rfl)) rfl) (hK _ _ hI rfl (fun j _ u h => h))
    · have e1 : a.eval (.tmp 36) = .pointer (some ⟨d, 0, none⟩) := hdeps ⟨15, .data⟩ (by simp) rfl _ rfl
      refine wp_fn 26 [.tmp 36, .const (.int .i64 20)] _ rfl [.pointer (some ⟨d, 0, none⟩), .int .i64 20] (by simp only [List.map_cons, List.map_nil, e1]; rfl) enter_next (next_any d 20 (by omega) (by omega) wx hI.st.dice) ?_
      rintro e wy ⟨⟨r, rfl, r0, r1⟩, hdk, hbt⟩
      exact ⟨_, rfl, hK _ _ (hI.next hdk hbt) ⟨r, rfl, r0, r1⟩ (fun j hj u h => F18_only (only_of_but hbt) hn2 hn3 (by omega) (.inl rfl) j ⟨fun e => absurd e hn2, fun e => absurd e hn3⟩ u h)⟩
    · have e1 : a.eval (.tmp 21) = .agg #[I64 (x1 * 8), I64 x2, I64 (1 + x3), I64 m] := hdeps ⟨0, .data⟩ (by simp) rfl _ rfl
      obtain ⟨c0, c1, c2, c3, hr2⟩ := hI.r2
      refine wp_store_blk _ _ _ rfl R2 (far_eval (hfar 2 (by kernel_rfl)) rfl) [I64 (x1 * 8), I64 x2, I64 (1 + x3), I64 m] e1 _ _ hr2 rfl (by kernel_rfl) (by intro v hv; simp at hv; rcases hv with rfl | rfl | rfl | rfl <;> rfl) ?_
      intro w' hb ho
      exact hK _ _ (hI.store2 hb ho) hb (fun j hj u h => F18_only ho hn2 hn3 (by omega) (.inr (.inl rfl)) j ⟨fun _ => hj, fun e => absurd e (by omega)⟩ u h)
    · obtain ⟨n, e, e1, hp⟩ := (hdeps ⟨9, .data⟩ (by simp) rfl _ rfl : ∃ n e : Int, a.eval (.tmp 30) = .agg #[I64 n, I64 e] ∧ PerOk n e)
      obtain ⟨c0, c1, hr3⟩ := hI.r3
      refine wp_store_blk _ _ _ rfl (R2 + 1) (far_eval (hfar 3 (by kernel_rfl)) rfl) [I64 n, I64 e] e1 _ _ hr3 rfl (by kernel_rfl) (by intro v hv; simp at hv; rcases hv with rfl | rfl <;> rfl) ?_
      intro w' hb ho
      exact hK _ _ (hI.store3 hb ho) ⟨n, e, hb, hp⟩ (fun j hj u h => F18_only ho hn2 hn3 (by omega) (.inr (.inr rfl)) j ⟨fun e => absurd e (by omega), fun _ => hj⟩ u h)
    · obtain ⟨k, e1, hk⟩ := (hdeps ⟨14, .data⟩ (by simp) rfl _ rfl : ∃ k : Int, a.eval (.tmp 35) = I64 k ∧ k ∈ [(0 : Int), 66, 100, 4096, 2000])
      exact wp_move (.tmp 35) (.inr rfl) _ e1 (hK _ _ hI ⟨k, rfl, hk⟩ (fun j _ u h => h))
    · obtain ⟨k, e1, hk⟩ := (hdeps ⟨16, .data⟩ (by simp) rfl _ rfl : ∃ k : Int, a.eval (.tmp 37) = I64 k ∧ 0 ≤ k ∧ k < 20)
      exact wp_move (.tmp 37) (.inr rfl) _ e1 (hK _ _ hI ⟨k, rfl, hk⟩ (fun j _ u h => h))
  · intro a wx hs hdf hfar hI hF
    have e2 := tmp_eval (far_eval (hfar 2 (by kernel_rfl)) rfl)
    have e3 := tmp_eval (far_eval (hfar 3 (by kernel_rfl)) rfl)
    obtain ⟨k, e4, hk⟩ := (hF 19 _ rfl : ∃ k : Int, a.eval (.tmp 4) = I64 k ∧ k ∈ [(0 : Int), 66, 100, 4096, 2000])
    obtain ⟨jj, e5, hj0, hj1⟩ := (hF 20 _ rfl : ∃ k : Int, a.eval (.tmp 5) = I64 k ∧ 0 ≤ k ∧ k < 20)
    have b2 : Blk wx R2 _ _ := hF 17 _ rfl
    obtain ⟨n, e, b3, hp⟩ := (hF 18 _ rfl : ∃ n e : Int, Blk wx (R2 + 1) [I64 n, I64 e] 27 ∧ PerOk n e)
    have HI := hid hI
    have c0 := b2.cell 0 rfl
    have c1 := b2.cell 1 rfl
    have c2 := b2.cell 2 rfl
    have c3 := b2.cell 3 rfl
    have c4 := b3.cell 0 rfl
    have c5 := b3.cell 1 rfl
    have e4 := tmp_eval e4
    have e5 := tmp_eval e5
    have HDF := hid hdf
    clear hF hfar hI b2 b3 hs hdf
    go_wp2
    refine bodyPost_ret (v := .tuple #[.agg #[I64 (x1 * 8), I64 x2, I64 (1 + x3), I64 m], .agg #[I64 n, I64 e], I64 k, I64 jj]) (by simp [results, Try.results14, go_sem, *]) HDF.out ?_
    exact ⟨⟨_, _, _, _, _, _, _, _, rfl, ⟨by omega, by omega⟩, ⟨h20, by omega⟩, ⟨by omega, by omega⟩, hmL'.out, hp, hk, hj0, hj1⟩, HI.out.st.dice, HI.out.st.but⟩
end Go.Proofs.Ythmkkanjjlechaa
