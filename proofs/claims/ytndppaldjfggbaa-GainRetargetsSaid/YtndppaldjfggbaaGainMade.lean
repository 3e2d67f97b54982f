/- The ramps that the laws make: no statement is proved here. -/
import Derived.Test.YtndppaldjfggbaaGainRef
import Derived.Test.YtndppaldjfggbaaDiceSt
import Derived.Test.YtndppaldjfggbaaFacts
import Derived.Deep.RegionWith
import Derived.Outline
namespace Go.Proofs.Ytndppaldjfggbaa
open Go.ChangeShapes Go.WideShapes Go.ChangeAt Go.RowKit
set_option linter.unusedVariables false
set_option linter.unusedSimpArgs false

def GL : List Int := [65536, 0, 1, 262144, 32768, 65535, 70000]
theorem GL_bd (k : Nat) (hk : k < 7) : 0 ≤ GL.getD k 0 ∧ GL.getD k 0 ≤ 262144 := by
  match k, hk with
  | 0, _ | 1, _ | 2, _ | 3, _ | 4, _ | 5, _ | 6, _ => decide
theorem GL_cells {w : World} {G : Nat} {T : TypeId} (h : Blk w G (GL.map (Value.int .i64)) T) : ∀ k : Nat, k < 7 → w.cell? ⟨G, k, none⟩ = some (.int .i64 (GL.getD k 0)) := by
  intro k hk
  refine h.cell k ?_
  match k, hk with
  | 0, _ | 1, _ | 2, _ | 3, _ | 4, _ | 5, _ | 6, _ => rfl
theorem only_but {d : Nat} {w w' : World} (h : But d w w') : Only d w w' := ⟨h.os, h.tape, h.output, h.size, h.block⟩
structure RSt (W w : World) (d R G : Nat) : Prop where
  st : St W w d
  res : Blk w R [.int .i64 0, .int .i64 0, .int .i64 0, .int .i64 0] 31
  lit : Blk w G (GL.map (Value.int .i64)) 3
  lo : d < R ∧ R < G ∧ W.heap.size ≤ R
theorem RSt.next {W w w' : World} {d R G : Nat} (h : RSt W w d R G) (hk : St W w' d) (hb : But d w w') : RSt W w' d R G :=
  ⟨hk, h.res.only (only_but hb) (by have := h.lo; omega), h.lit.only (only_but hb) (by have := h.lo; omega), h.lo⟩
theorem RSt.kept {W w w' : World} {d R G : Nat} (h : RSt W w d R G) (hb : Below w.heap.size w w') : RSt W w' d R G :=
  ⟨h.st.kept hb, h.res.kept hb, h.lit.kept hb, h.lo⟩
abbrev I64 (n : Int) : Value := .int .i64 n
def Rb (f t n : Int) : Prop := (0 ≤ f ∧ f ≤ 262144) ∧ (0 ≤ t ∧ t ≤ 262144) ∧ 0 ≤ n ∧ n ≤ 11
def FR (d G : Nat) : Nat → Value → World → Prop
  | 0, v, _ => v = .slice (some ⟨G, 0, none⟩) 7 7
  | 5, v, _ => v = .slice (some ⟨G, 0, none⟩) 7 7
  | 2, v, _ => ∃ x : Int, v = I64 x ∧ 0 ≤ x ∧ x < 7
  | 7, v, _ => ∃ x : Int, v = I64 x ∧ 0 ≤ x ∧ x < 7
  | 3, v, _ => ∃ x : Nat, v = .pointer (some ⟨G, x, none⟩) ∧ x < 7
  | 8, v, _ => ∃ x : Nat, v = .pointer (some ⟨G, x, none⟩) ∧ x < 7
  | 4, v, _ => ∃ k : Int, v = I64 k ∧ 0 ≤ k ∧ k ≤ 262144
  | 9, v, _ => ∃ k : Int, v = I64 k ∧ 0 ≤ k ∧ k ≤ 262144
  | 11, v, _ => ∃ z : Int, v = I64 z ∧ 0 ≤ z ∧ z < 12
  | 12, v, _ => ∃ f t n : Int, v = .agg #[I64 f, I64 t, I64 n, I64 0] ∧ Rb f t n
  | 13, v, w => ∃ (b : Nat) (f t n : Int), v = .pointer (some ⟨b, 0, none⟩) ∧ Rb f t n ∧ Blk w b [I64 f, I64 t, I64 n, I64 0] 31 ∧ G < b
  | 14, _, _ => True
  | _, v, _ => v = .pointer (some ⟨d, 0, none⟩)
theorem FR_only {d G : Nat} {w w' : World} {k : Nat} (h : Only k w w') (hk : k ≤ G ∨ ∃ f t n : Int, Rb f t n ∧ Blk w' k [I64 f, I64 t, I64 n, I64 0] 31) (j : Nat) (u : Value) (hf : FR d G j u w) : FR d G j u w' := by
  unfold FR at *
  split at hf
  all_goals first
    | exact hf
    | (obtain ⟨b, f, t, n, e1, e2, e3, e4⟩ := hf
       by_cases hkb : k = b
       · subst hkb
         rcases hk with hk | ⟨f', t', n', h1, h2⟩
         · omega
         · exact ⟨k, f', t', n', e1, h1, h2, e4⟩
       · exact ⟨b, f, t, n, e1, e2, e3.only h (fun e => hkb e.symm), e4⟩)
theorem FR_below {d G : Nat} {w w' : World} (h : Below w.heap.size w w') (j : Nat) (u : Value) (hf : FR d G j u w) : FR d G j u w' := by
  unfold FR at *
  split at hf
  all_goals first
    | exact hf
    | (obtain ⟨b, f, t, n, e1, e2, e3, e4⟩ := hf; exact ⟨b, f, t, n, e1, e2, e3.kept h, e4⟩)
theorem RSt.far {W w w' : World} {d R G b : Nat} (h : RSt W w d R G) (ho : Only b w w') (hb : G < b) : RSt W w' d R G := by
  obtain ⟨h1, h2, h3, h4, h5, h6⟩ := h
  refine ⟨⟨h1.dice.far ho.size ho.block (by omega), ⟨ho.os.trans h1.but.os, ho.tape.trans h1.but.tape, ho.output.trans h1.but.output, Nat.le_trans h1.but.size ho.size, fun k hk hkd => (ho.block k (Nat.lt_of_lt_of_le hk h1.but.size) (by omega)).trans (h1.but.block k hk hkd)⟩⟩, h2.only ho (by omega), h3.only ho (by omega), h4, h5, h6⟩
theorem St.set {W w : World} {d k o : Nat} {v : Value} (h : St W w d) (hk : W.heap.size ≤ k) (hd : d < W.heap.size) : St W (w.setCell ⟨k, o, none⟩ v) d := by
  have ho : Only k w (w.setCell ⟨k, o, none⟩ v) := only_setCells [v] o w
  refine ⟨h.dice.far ho.size ho.block (by omega), ⟨ho.os.trans h.but.os, ho.tape.trans h.but.tape, ho.output.trans h.but.output, Nat.le_trans h.but.size ho.size, fun j hj hjd => (ho.block j (Nat.lt_of_lt_of_le hj h.but.size) (by omega)).trans (h.but.block j hj hjd)⟩⟩
theorem tmp_get {a : Act} {t : Tmp} {v : Value} (h : a.eval (.tmp t) = v) (ht : t < a.tmps.size) : a.tmps[t] = v := by
  rw [← h]; simp [Act.eval, ht]
theorem enter_next : ∀ (ar : Array Value) (w : World), (callFunc 30 ar).run Try.prog w = .ok (.enter 30 ar) w := by
  intro ar w
  kernel_rfl
set_option maxRecDepth 100000 in
set_option maxHeartbeats 16000000 in
theorem ramp_any (w : World) (d : Nat) (h : DiceAt w d) :
    Calls Try.prog 20 #[.pointer (some ⟨d, 0, none⟩)] w fun e w' => (∃ f t n a : Int, e = .returned (.agg #[.int .i64 f, .int .i64 t, .int .i64 n, .int .i64 a]) ∧ Rb f t n ∧ 0 ≤ a ∧ a ≤ n) ∧ DiceAt w' d ∧ But d w w' := by
  have hd := h.lt
  have HR := hid (show RSt w ((w.alloc (.cells #[.int .i64 0, .int .i64 0, .int .i64 0, .int .i64 0] 31)).alloc (.cells (GL.map (Value.int .i64)).toArray 3)) d w.heap.size (w.heap.size + 1) from
    ⟨(St.start h).kept (by go_grown), (Blk.alloc_new w [.int .i64 0, .int .i64 0, .int .i64 0, .int .i64 0] 31).kept (by go_grown), (by have hq := Blk.alloc_new (w.alloc (.cells #[.int .i64 0, .int .i64 0, .int .i64 0, .int .i64 0] 31)) (GL.map (Value.int .i64)) 3; simp only [World.size_alloc] at hq; exact hq), by omega, by omega, Nat.le_refl _⟩)
  clear h
  go_enter Try.func20, Try.ntmps20
  go_upto_region 2 with (fail)
  have hR := HR.out
  simp only [GL, List.map_cons, List.map_nil] at hR
  generalize (w.alloc (.cells #[.int .i64 0, .int .i64 0, .int .i64 0, .int .i64 0] 31)).alloc (.cells #[.int .i64 65536, .int .i64 0, .int .i64 1, .int .i64 262144, .int .i64 32768, .int .i64 65535, .int .i64 70000] 3) = W1 at *
  have hI0 : RSt w W1.drew d w.heap.size (w.heap.size + 1) := RSt.kept hR ((Below.refl _ _).drew)
  clear hR HR
  generalize hGG : w.heap.size + 1 = G at *
  have hdG : d ≤ G := by omega
  refine wp_region_facts (ops := [_, _, _, _, _, _, _, _, _, _, _, _, _, _, _]) (fun w' => RSt w w' d w.heap.size G) (FR d G) (by kernel_rfl) (by kernel_rfl) (by kernel_rfl) hI0 ?_ ?_
  · refine ⟨?_, ?_, ?_, ?_, ?_, ?_, ?_, ?_, ?_, ?_, ?_, ?_, ?_, ?_, ?_, trivial⟩
    all_goals (intro a wx hs hdf hfar hI hdeps K hK)
    · exact wp_move (.tmp 3) (.inl rfl) _ (far_eval (hfar 3 (by kernel_rfl)) rfl) (hK _ _ hI rfl (fun j _ u h => h))
    · exact wp_move (.tmp 0) (.inl rfl) _ (far_eval (hfar 0 (by kernel_rfl)) rfl) (hK _ _ hI rfl (fun j _ u h => h))
    · have e1 : a.eval (.tmp 7) = .pointer (some ⟨d, 0, none⟩) := hdeps ⟨1, .data⟩ (by simp) rfl _ rfl
      refine wp_fn 30 [.tmp 7, .const (.int .i64 7)] _ rfl [.pointer (some ⟨d, 0, none⟩), .int .i64 7] (by simp only [List.map_cons, List.map_nil, e1]; rfl) enter_next (next_st w d 7 (by omega) (by omega) wx hI.st) ?_
      rintro e wy ⟨⟨r, rfl, r0, r1⟩, hst, _, _, _, hbt⟩
      exact ⟨_, rfl, hK _ _ (hI.next hst hbt) ⟨r, rfl, r0, r1⟩ (fun j hj u h => FR_only (only_but hbt) (.inl hdG) j u h)⟩
    · have e1 : a.eval (.tmp 6) = .slice (some ⟨G, 0, none⟩) 7 7 := hdeps ⟨0, .data⟩ (by simp) rfl _ rfl
      obtain ⟨x, e2, x0, xl⟩ := (hdeps ⟨2, .data⟩ (by simp) rfl _ rfl : ∃ x : Int, a.eval (.tmp 8) = I64 x ∧ 0 ≤ x ∧ x < 7)
      refine wp_index_addr _ 3 _ _ rfl Try.underlying23 1 (by kernel_rfl) G 0 7 7 e1 .i64 x e2 x0 (by omega) ?_
      exact hK _ _ hI ⟨x.toNat, by rw [Nat.zero_add, Nat.mul_one]; rfl, by omega⟩ (fun j _ u h => h)
    · obtain ⟨x, e1, hx⟩ := (hdeps ⟨3, .data⟩ (by simp) rfl _ rfl : ∃ x : Nat, a.eval (.tmp 9) = .pointer (some ⟨G, x, none⟩) ∧ x < 7)
      have e1' := tmp_eval e1
      have hc := GL_cells hI.lit x hx
      have hkb := hid (GL_bd x hx)
      generalize GL.getD x 0 = k at *
      have HDF := hid hdf
      clear hdf hs hfar hdeps e1
      go_simp
      exact hK _ _ hI ⟨k, rfl, hkb.out.1, hkb.out.2⟩ (fun j _ u h => h)
    · exact wp_move (.tmp 3) (.inl rfl) _ (far_eval (hfar 3 (by kernel_rfl)) rfl) (hK _ _ hI rfl (fun j _ u h => h))
    · exact wp_move (.tmp 0) (.inl rfl) _ (far_eval (hfar 0 (by kernel_rfl)) rfl) (hK _ _ hI rfl (fun j _ u h => h))
    · have e1 : a.eval (.tmp 12) = .pointer (some ⟨d, 0, none⟩) := hdeps ⟨6, .data⟩ (by simp) rfl _ rfl
      refine wp_fn 30 [.tmp 12, .const (.int .i64 7)] _ rfl [.pointer (some ⟨d, 0, none⟩), .int .i64 7] (by simp only [List.map_cons, List.map_nil, e1]; rfl) enter_next (next_st w d 7 (by omega) (by omega) wx hI.st) ?_
      rintro e wy ⟨⟨r, rfl, r0, r1⟩, hst, _, _, _, hbt⟩
      exact ⟨_, rfl, hK _ _ (hI.next hst hbt) ⟨r, rfl, r0, r1⟩ (fun j hj u h => FR_only (only_but hbt) (.inl hdG) j u h)⟩
    · have e1 : a.eval (.tmp 11) = .slice (some ⟨G, 0, none⟩) 7 7 := hdeps ⟨5, .data⟩ (by simp) rfl _ rfl
      obtain ⟨x, e2, x0, xl⟩ := (hdeps ⟨7, .data⟩ (by simp) rfl _ rfl : ∃ x : Int, a.eval (.tmp 13) = I64 x ∧ 0 ≤ x ∧ x < 7)
      refine wp_index_addr _ 3 _ _ rfl Try.underlying23 1 (by kernel_rfl) G 0 7 7 e1 .i64 x e2 x0 (by omega) ?_
      exact hK _ _ hI ⟨x.toNat, by rw [Nat.zero_add, Nat.mul_one]; rfl, by omega⟩ (fun j _ u h => h)
    · obtain ⟨x, e1, hx⟩ := (hdeps ⟨8, .data⟩ (by simp) rfl _ rfl : ∃ x : Nat, a.eval (.tmp 14) = .pointer (some ⟨G, x, none⟩) ∧ x < 7)
      have e1' := tmp_eval e1
      have hc := GL_cells hI.lit x hx
      have hkb := hid (GL_bd x hx)
      generalize GL.getD x 0 = k at *
      have HDF := hid hdf
      clear hdf hs hfar hdeps e1
      go_simp
      exact hK _ _ hI ⟨k, rfl, hkb.out.1, hkb.out.2⟩ (fun j _ u h => h)
    · exact wp_move (.tmp 0) (.inl rfl) _ (far_eval (hfar 0 (by kernel_rfl)) rfl) (hK _ _ hI rfl (fun j _ u h => h))
    · have e1 : a.eval (.tmp 16) = .pointer (some ⟨d, 0, none⟩) := hdeps ⟨10, .data⟩ (by simp) rfl _ rfl
      refine wp_fn 30 [.tmp 16, .const (.int .i64 12)] _ rfl [.pointer (some ⟨d, 0, none⟩), .int .i64 12] (by simp only [List.map_cons, List.map_nil, e1]; rfl) enter_next (next_st w d 12 (by omega) (by omega) wx hI.st) ?_
      rintro e wy ⟨⟨r, rfl, r0, r1⟩, hst, _, _, _, hbt⟩
      exact ⟨_, rfl, hK _ _ (hI.next hst hbt) ⟨r, rfl, r0, r1⟩ (fun j hj u h => FR_only (only_but hbt) (.inl hdG) j u h)⟩
    · obtain ⟨f, e1, f0, f1⟩ := (hdeps ⟨4, .data⟩ (by simp) rfl _ rfl : ∃ k : Int, a.eval (.tmp 10) = I64 k ∧ 0 ≤ k ∧ k ≤ 262144)
      obtain ⟨t, e2, t0, t1⟩ := (hdeps ⟨9, .data⟩ (by simp) rfl _ rfl : ∃ k : Int, a.eval (.tmp 15) = I64 k ∧ 0 ≤ k ∧ k ≤ 262144)
      obtain ⟨n, e3, n0, n1⟩ := (hdeps ⟨11, .data⟩ (by simp) rfl _ rfl : ∃ z : Int, a.eval (.tmp 17) = I64 z ∧ 0 ≤ z ∧ z < 12)
      have e1' := tmp_eval e1
      have e2' := tmp_eval e2
      have e3' := tmp_eval e3
      have HDF := hid hdf
      have HB := hid (show Rb f t n from ⟨⟨f0, f1⟩, ⟨t0, t1⟩, n0, by omega⟩)
      clear hdf hs hfar hdeps e1 e2 e3 f0 f1 t0 t1 n0 n1
      go_simp
      exact hK _ _ hI ⟨f, t, n, rfl, HB.out⟩ (fun j _ u h => h)
    · have HDF := hid hdf
      clear hdf hs hfar hdeps
      have hsz : G < wx.heap.size := hI.lit.lt
      go_simp
      have hb : Below wx.heap.size wx (wx.alloc (.cells #[I64 0, I64 0, I64 0, I64 0] 31)) := by go_grown
      exact hK _ _ (hI.kept hb) ⟨wx.heap.size, 0, 0, 0, rfl, ⟨by omega, by omega, by omega⟩, Blk.alloc_new wx [I64 0, I64 0, I64 0, I64 0] 31, hsz⟩ (fun j _ u h => FR_below hb j u h)
    · obtain ⟨b, f, t, n, e1, _, hb, hGb⟩ := (hdeps ⟨13, .data⟩ (by simp) rfl _ rfl : ∃ (b : Nat) (f t n : Int), a.eval (.tmp 4) = .pointer (some ⟨b, 0, none⟩) ∧ Rb f t n ∧ Blk wx b [I64 f, I64 t, I64 n, I64 0] 31 ∧ G < b)
      obtain ⟨f', t', n', e2, hRb⟩ := (hdeps ⟨12, .data⟩ (by simp) rfl _ rfl : ∃ f t n : Int, a.eval (.tmp 18) = .agg #[I64 f, I64 t, I64 n, I64 0] ∧ Rb f t n)
      refine wp_store_blk _ _ _ rfl b e1 [I64 f', I64 t', I64 n', I64 0] e2 _ _ hb rfl (by kernel_rfl) (by intro v hv; simp at hv; rcases hv with rfl | rfl | rfl | rfl <;> rfl) ?_
      intro w' hb' ho
      exact hK _ _ (hI.far ho hGb) trivial (fun j hj u h => FR_only ho (.inr ⟨f', t', n', hRb, hb'⟩) j u h)
  · intro a wx hs hdf hfar hI hF
    have hsz : a.tmps.size = 26 := hs
    have e0 := tmp_get (far_eval (hfar 0 (by kernel_rfl)) rfl) (by rw [hsz]; decide)
    have e2 := tmp_get (far_eval (hfar 2 (by kernel_rfl)) rfl) (by rw [hsz]; decide)
    obtain ⟨b, f, t, n, e4, hRb, hb, hGb⟩ := (hF 13 _ rfl : ∃ (b : Nat) (f t n : Int), a.eval (.tmp 4) = .pointer (some ⟨b, 0, none⟩) ∧ Rb f t n ∧ Blk wx b [I64 f, I64 t, I64 n, I64 0] 31 ∧ G < b)
    have e4 := tmp_get e4 (by rw [hsz]; decide)
    have HI := hid hI
    have HB := hid hb
    have HRb := hid hRb
    obtain ⟨_, _, n0, n1⟩ := hRb
    have c0 := hb.cell 0 rfl
    have c1 := hb.cell 1 rfl
    have c2 := hb.cell 2 rfl
    have c3 := hb.cell 3 rfl
    have z3 := hb.frozen 3
    have HDF := hid hdf
    clear hF hfar hI hs hdf hb
    go_wp2_with fail
    (with_reducible refine (next_st w d (n + 1) (by omega) (by omega) wx HI.out.st).mono ?_)
    rintro e wy ⟨⟨r, rfl, r0, r1⟩, hst, hcell, hfro, hsiz, hbt⟩
    have hbx : b < wx.heap.size := HB.out.lt
    have c0 := (hcell b 0 hbx (by omega)).trans c0
    have c1 := (hcell b 1 hbx (by omega)).trans c1
    have c2 := (hcell b 2 hbx (by omega)).trans c2
    have c3 := (hcell b 3 hbx (by omega)).trans c3
    have z3 := (hfro b 3 hbx (by omega)).trans z3
    have hR := HI.out.res
    have hRx : w.heap.size < wx.heap.size := hR.lt
    have d0 := (hcell _ 0 hRx (by omega)).trans (hR.cell 0 rfl)
    have d1 := (hcell _ 1 hRx (by omega)).trans (hR.cell 1 rfl)
    have d2 := (hcell _ 2 hRx (by omega)).trans (hR.cell 2 rfl)
    have d3 := (hcell _ 3 hRx (by omega)).trans (hR.cell 3 rfl)
    have y0 := (hfro _ 0 hRx (by omega)).trans (hR.frozen 0)
    have y1 := (hfro _ 1 hRx (by omega)).trans (hR.frozen 1)
    have y2 := (hfro _ 2 hRx (by omega)).trans (hR.frozen 2)
    have y3 := (hfro _ 3 hRx (by omega)).trans (hR.frozen 3)
    have HST := hid hst
    have HBT := hid hbt
    clear hR
    clear hst hbt hcell hfro
    go_wp2_with fail
    refine bodyPost_ret (v := .agg #[I64 f, I64 t, I64 n, I64 r]) (by simp [results, Try.results20, go_sem, *]) HDF.out ?_
    refine ⟨⟨_, _, _, _, rfl, HRb.out, r0, by omega⟩, ?_⟩
    have hf := ((((HST.out.set (o := 3) (v := .int .i64 r) (show w.heap.size ≤ b by omega) hd).set (o := 0) (v := .int .i64 f) (Nat.le_refl _) hd).set (o := 1) (v := .int .i64 t) (Nat.le_refl _) hd).set (o := 2) (v := .int .i64 n) (Nat.le_refl _) hd).set (o := 3) (v := .int .i64 r) (Nat.le_refl _) hd
    exact ⟨hf.dice, hf.but⟩
end Go.Proofs.Ytndppaldjfggbaa
