/- The limiters that the laws make. No statement is proved here. -/
import Derived.Test.YtbcifmddbhnkhaaRegR
import Derived.Test.YtbcifmddbhnkhaaLimNew
import Derived.Test.YtbcifmddbhnkhaaLimSums
namespace Go.Proofs.Ytbcifmddbhnkhaa
open Go.ChangeShapes Go.WideShapes Go.ChangeAt Go.RowKit
set_option linter.unusedVariables false
set_option linter.unusedSimpArgs false

def FM8A (W : World) (d R : Nat) : Nat → World → Prop := fun _ w => Lx W w (some d) [(R, [.int .i64 0, .int .i64 0, .int .i64 0], 23)]
def FM8 (W : World) (d R : Nat) (ph : Nat) : Nat → Value → World → Prop
  | 0, v, w => match ph with | 0 => ∃ G : Nat, v = .slice (some ⟨G, 0, none⟩) 4 4 ∧ NB w R G [.int .i64 8388607, .int .i64 1, .int .i64 100, .int .i64 4000000] 3 | _ => True
  | 1, v, w => v = .pointer (some ⟨d, 0, none⟩)
  | 2, v, w => ∃ x : Int, v = .int .i64 x ∧ 0 ≤ x ∧ x < 4
  | 3, v, w => match ph with | 0 => ∃ G x : Nat, v = .pointer (some ⟨G, x, none⟩) ∧ NB w R G [.int .i64 8388607, .int .i64 1, .int .i64 100, .int .i64 4000000] 3 ∧ x < 4 | _ => True
  | 4, v, w => ∃ t : Int, v = .int .i64 t ∧ 1 ≤ t ∧ t ≤ 8388607
  | 5, v, w => match ph with | 0 => ∃ G : Nat, v = .slice (some ⟨G, 0, none⟩) 3 3 ∧ NB w R G [.int .i64 1, .int .i64 1000, .int .i64 65536] 3 | _ => True
  | 6, v, w => v = .pointer (some ⟨d, 0, none⟩)
  | 7, v, w => ∃ x : Int, v = .int .i64 x ∧ 0 ≤ x ∧ x < 3
  | 8, v, w => match ph with | 0 => ∃ G x : Nat, v = .pointer (some ⟨G, x, none⟩) ∧ NB w R G [.int .i64 1, .int .i64 1000, .int .i64 65536] 3 ∧ x < 3 | _ => True
  | 9, v, w => ∃ r : Int, v = .int .i64 r ∧ 1 ≤ r ∧ r ≤ 65536
  | 10, v, w => ∃ t r : Int, v = .tuple #[.agg #[.int .i64 t, .int .i64 r, .int .i64 65536], .int .i64 0] ∧ (1 ≤ t ∧ t ≤ 8388607) ∧ (1 ≤ r ∧ r ≤ 65536)
  | 11, v, w => ∃ t r : Int, v = .tuple #[.agg #[.int .i64 t, .int .i64 r, .int .i64 65536], .int .i64 0] ∧ (1 ≤ t ∧ t ≤ 8388607) ∧ (1 ≤ r ∧ r ≤ 65536)
  | 12, v, w => ∃ t r : Int, v = .agg #[.int .i64 t, .int .i64 r, .int .i64 65536] ∧ (1 ≤ t ∧ t ≤ 8388607) ∧ (1 ≤ r ∧ r ≤ 65536)
  | 13, v, w => v = .int .i64 0
  | 14, v, w => match ph with | 0 => ∃ b : Nat, v = .pointer (some ⟨b, 0, none⟩) ∧ NB w R b [.int .i64 0, .int .i64 0, .int .i64 0] 23 | _ => ∃ (b : Nat) (t r : Int), v = .pointer (some ⟨b, 0, none⟩) ∧ NB w R b [.int .i64 t, .int .i64 r, .int .i64 65536] 23 ∧ (1 ≤ t ∧ t ≤ 8388607) ∧ (1 ≤ r ∧ r ≤ 65536)
  | 16, v, w => v = .int .i64 0
  | _, _, _ => True
theorem FM8_below {W : World} {d R : Nat} {w w' : World} (hb : Below w.heap.size w w') : ∀ (k j : Nat) (u : Value), FM8 W d R k j u w → FM8 W d R k j u w' := by
  intro k j u hf
  rcases k with _ | k
  all_goals (unfold FM8 at *; split at hf)
  all_goals first
    | exact hf
    | (obtain ⟨G, e, h⟩ := hf; exact ⟨G, e, h.below hb⟩)
    | (obtain ⟨G, x, e, h, h2⟩ := hf; exact ⟨G, x, e, h.below hb, h2⟩)
    | (obtain ⟨b, t, r, e, h, h2⟩ := hf; exact ⟨b, t, r, e, h.below hb, h2⟩)
theorem FM8_but {W : World} {d R : Nat} {w w' : World} (hd : d ≤ R) (hb : But d w w') : ∀ (k j : Nat) (u : Value), FM8 W d R k j u w → FM8 W d R k j u w' := by
  intro k j u hf
  rcases k with _ | k
  all_goals (unfold FM8 at *; split at hf)
  all_goals first
    | exact hf
    | (obtain ⟨G, e, h⟩ := hf; exact ⟨G, e, h.but hb hd⟩)
    | (obtain ⟨G, x, e, h, h2⟩ := hf; exact ⟨G, x, e, h.but hb hd, h2⟩)
    | (obtain ⟨b, t, r, e, h, h2⟩ := hf; exact ⟨b, t, r, e, h.but hb hd, h2⟩)
theorem enter_next : ∀ (ar : Array Value) (w : World), (callFunc 21 ar).run Try.prog w = .ok (.enter 21 ar) w := by
  intro ar w
  kernel_rfl
theorem enter_rnew : ∀ (ar : Array Value) (w : World), (callFunc 16 ar).run Try.prog w = .ok (.enter 16 ar) w := by
  intro ar w
  kernel_rfl
theorem lit4 {w : World} {G : Nat} {T : TypeId} (h : Blk w G [.int .i64 8388607, .int .i64 1, .int .i64 100, .int .i64 4000000] T) (k : Nat) (hk : k < 4) : ∃ y : Int, w.cell? ⟨G, k, none⟩ = some (.int .i64 y) ∧ 1 ≤ y ∧ y ≤ 8388607 := by
  match k, hk with
  | 0, _ => exact ⟨_, h.cell 0 rfl, by omega⟩
  | 1, _ => exact ⟨_, h.cell 1 rfl, by omega⟩
  | 2, _ => exact ⟨_, h.cell 2 rfl, by omega⟩
  | 3, _ => exact ⟨_, h.cell 3 rfl, by omega⟩
theorem lit3 {w : World} {G : Nat} {T : TypeId} (h : Blk w G [.int .i64 1, .int .i64 1000, .int .i64 65536] T) (k : Nat) (hk : k < 3) : ∃ y : Int, w.cell? ⟨G, k, none⟩ = some (.int .i64 y) ∧ 1 ≤ y ∧ y ≤ 65536 := by
  match k, hk with
  | 0, _ => exact ⟨_, h.cell 0 rfl, by omega⟩
  | 1, _ => exact ⟨_, h.cell 1 rfl, by omega⟩
  | 2, _ => exact ⟨_, h.cell 2 rfl, by omega⟩
theorem lit4b {w : World} {G : Nat} {T : TypeId} (h : Blk w G [.int .i64 65536, .int .i64 0, .int .i64 1, .int .i64 30000] T) (k : Nat) (hk : k < 4) : ∃ y : Int, w.cell? ⟨G, k, none⟩ = some (.int .i64 y) ∧ 0 ≤ y ∧ y ≤ 65536 := by
  match k, hk with
  | 0, _ => exact ⟨_, h.cell 0 rfl, by omega⟩
  | 1, _ => exact ⟨_, h.cell 1 rfl, by omega⟩
  | 2, _ => exact ⟨_, h.cell 2 rfl, by omega⟩
  | 3, _ => exact ⟨_, h.cell 3 rfl, by omega⟩
set_option maxRecDepth 100000 in
set_option maxHeartbeats 8000000 in
theorem made_any (d : Nat) (W : World) (h : DiceAt W d) :
    Calls Try.prog 10 #[.pointer (some ⟨d, 0, none⟩)] W fun e w' => (∃ t r g : Int, e = .returned (.agg #[.int .i64 t, .int .i64 r, .int .i64 g]) ∧ (1 ≤ t ∧ t ≤ 8388607) ∧ (1 ≤ r ∧ r ≤ 65536) ∧ 0 ≤ g ∧ g ≤ 65536) ∧ DiceAt w' d ∧ But d W w' := by
  have hI0 := ((Lx.startD h).alloc (vs := [.int .i64 0, .int .i64 0, .int .i64 0]) (T := 23)).drew
  have hdl := h.lt
  clear h
  go_enter Try.func10, Try.ntmps10
  go_upto_region 1 with (fail)
  generalize (W.alloc (.cells #[.int .i64 0, .int .i64 0, .int .i64 0] 23)) = W1 at *
  obtain ⟨R, hR⟩ : ∃ R, W.heap.size = R := ⟨_, rfl⟩
  have hWR : W.heap.size ≤ R := by omega
  simp only [hR] at hI0 ⊢
  have hdR : d ≤ R := by omega
  clear hR
  refine wp_region_factsR (ops := [_, _, _, _, _, _, _, _, _, _, _, _, _, _, _, _, _]) (fun _ => none) (phA [15] (FM8A W d R)) (phF [15] (FM8 W d R)) (by kernel_rfl) (by kernel_rfl) (by kernel_rfl) (show (FM8A W d R) 0 _ from hI0) ?_ (by kernel_rfl) ?_ ?_
  · intro g b h; cases h
  · refine ⟨?_, ?_, ?_, ?_, ?_, ?_, ?_, ?_, ?_, ?_, ?_, ?_, ?_, ?_, ?_, ?_, ?_, trivial⟩
    · unfold StepGPR; rw [if_pos (by kernel_rfl)]; intro a1 wx L hs hdf hfar hold hI hno hup hdeps K hK; have HOLD := hid hold; clear hold
      have hK := phK_plain (i := 0) (by kernel_rfl) hK
      have hS : Lx W wx (some d) [(R, [.int .i64 0, .int .i64 0, .int .i64 0], 23)] := hI
      have hk : ([15] : List Nat).countP L = 0 := by simp [hno 15 (by kernel_rfl)]
      rw [hk] at hK
      have hb : Below wx.heap.size wx (wx.alloc (.cells #[.int .i64 8388607, .int .i64 1, .int .i64 100, .int .i64 4000000] 3)) := by go_grown
      have hB := NB.mk (lo := R) (Blk.alloc_new wx [.int .i64 8388607, .int .i64 1, .int .i64 100, .int .i64 4000000] 3) (hS.lt 0 rfl)
      have HI := hid (hS.kept hb)
      have HM := hid (FM8_below (W := W) (d := d) (R := R) hb)
      have HK := hid hK
      have HB := hid hB
      clear hB
      clear hdf hs hfar hdeps hI hno hup hK hb hS
      go_simp
      exact HK.out _ _ HI.out ⟨_, rfl, HB.out⟩ (fun j oj _ _ _ h => HM.out _ _ _ h)
    · unfold StepGPR; rw [if_pos (by kernel_rfl)]; intro a1 wx L hs hdf hfar hold hI hno hup hdeps K hK; have HOLD := hid hold; clear hold
      have hK := phK_plain (i := 1) (by kernel_rfl) hK
      exact wp_move (.tmp 0) (.inl rfl) _ (far_eval (hfar 0 (by kernel_rfl)) rfl) (hK _ _ (phA_self hI) (by first | rfl | trivial) (fun _ _ _ _ _ h => h))
    · unfold StepGPR; rw [if_pos (by kernel_rfl)]; intro a1 wx L hs hdf hfar hold hI hno hup hdeps K hK; have HOLD := hid hold; clear hold
      have hK := phK_plain (i := 2) (by kernel_rfl) hK
      have hS : Lx W wx (some d) [(R, [.int .i64 0, .int .i64 0, .int .i64 0], 23)] := hI
      have e1 : a1.eval (.tmp 7) = .pointer (some ⟨d, 0, none⟩) := hdeps 1 (by kernel_rfl) (by kernel_rfl) _ rfl
      refine wp_fn 21 [.tmp 7, .const (.int .i64 4)] _ rfl [.pointer (some ⟨d, 0, none⟩), .int .i64 4] (by simp only [List.map_cons, List.map_nil, e1]; rfl) enter_next (next_any d 4 (by omega) (by omega) wx hS.diceAt) ?_
      rintro e wy ⟨⟨r, rfl, r0, r1⟩, hk, hb⟩
      exact ⟨_, rfl, hK _ _ (hS.next hk hb) ⟨r, rfl, r0, r1⟩ (fun j oj _ _ _ h => FM8_but hdR hb _ _ _ h)⟩
    · unfold StepGPR; rw [if_pos (by kernel_rfl)]; intro a1 wx L hs hdf hfar hold hI hno hup hdeps K hK; have HOLD := hid hold; clear hold
      have hK := phK_plain (i := 3) (by kernel_rfl) hK
      have hk : ([15] : List Nat).countP L = 0 := by simp [hno 15 (by kernel_rfl)]
      obtain ⟨G, e1, hB⟩ := (show ∃ G : Nat, (a1.eval (.tmp 6)) = .slice (some ⟨G, 0, none⟩) 4 4 ∧ NB wx R G [.int .i64 8388607, .int .i64 1, .int .i64 100, .int .i64 4000000] 3 from phF_at hk (hdeps 0 (by kernel_rfl) (by kernel_rfl) _ rfl))
      obtain ⟨x, e2, x0, x1⟩ := (show ∃ x : Int, (a1.eval (.tmp 8)) = .int .i64 x ∧ 0 ≤ x ∧ x < 4 from phF_at hk (hdeps 2 (by kernel_rfl) (by kernel_rfl) _ rfl))
      rw [hk] at hK
      refine wp_index_addr _ 3 _ _ rfl Try.underlying33 1 (by kernel_rfl) G 0 4 4 e1 .i64 x e2 x0 (by omega) ?_
      exact hK _ _ (phA_at hk hI) ⟨G, x.toNat, by rw [Nat.zero_add, Nat.mul_one]; rfl, hB, by omega⟩ (fun _ _ _ _ _ h => h)
    · unfold StepGPR; rw [if_pos (by kernel_rfl)]; intro a1 wx L hs hdf hfar hold hI hno hup hdeps K hK; have HOLD := hid hold; clear hold
      have hK := phK_plain (i := 4) (by kernel_rfl) hK
      have hk : ([15] : List Nat).countP L = 0 := by simp [hno 15 (by kernel_rfl)]
      obtain ⟨G, x, e1, hB, hx⟩ := (show ∃ G x : Nat, (a1.eval (.tmp 9)) = .pointer (some ⟨G, x, none⟩) ∧ NB wx R G [.int .i64 8388607, .int .i64 1, .int .i64 100, .int .i64 4000000] 3 ∧ x < 4 from phF_at hk (hdeps 3 (by kernel_rfl) (by kernel_rfl) _ rfl))
      rw [hk] at hK
      obtain ⟨y, hc, y0, y1⟩ := lit4 hB.1 x hx
      have x1 := tmp_eval e1
      have HI := hid (phA_at hk hI)
      have HK := hid hK
      clear hdf hs hfar hdeps hI hno hup hK hB e1
      go_simp
      exact HK.out _ _ HI.out ⟨y, rfl, y0, y1⟩ (fun _ _ _ _ _ h => h)
    · unfold StepGPR; rw [if_pos (by kernel_rfl)]; intro a1 wx L hs hdf hfar hold hI hno hup hdeps K hK; have HOLD := hid hold; clear hold
      have hK := phK_plain (i := 5) (by kernel_rfl) hK
      have hS : Lx W wx (some d) [(R, [.int .i64 0, .int .i64 0, .int .i64 0], 23)] := hI
      have hk : ([15] : List Nat).countP L = 0 := by simp [hno 15 (by kernel_rfl)]
      rw [hk] at hK
      have hb : Below wx.heap.size wx (wx.alloc (.cells #[.int .i64 1, .int .i64 1000, .int .i64 65536] 3)) := by go_grown
      have hB := NB.mk (lo := R) (Blk.alloc_new wx [.int .i64 1, .int .i64 1000, .int .i64 65536] 3) (hS.lt 0 rfl)
      have HI := hid (hS.kept hb)
      have HM := hid (FM8_below (W := W) (d := d) (R := R) hb)
      have HK := hid hK
      have HB := hid hB
      clear hB
      clear hdf hs hfar hdeps hI hno hup hK hb hS
      go_simp
      exact HK.out _ _ HI.out ⟨_, rfl, HB.out⟩ (fun j oj _ _ _ h => HM.out _ _ _ h)
    · unfold StepGPR; rw [if_pos (by kernel_rfl)]; intro a1 wx L hs hdf hfar hold hI hno hup hdeps K hK; have HOLD := hid hold; clear hold
      have hK := phK_plain (i := 6) (by kernel_rfl) hK
      exact wp_move (.tmp 0) (.inl rfl) _ (far_eval (hfar 0 (by kernel_rfl)) rfl) (hK _ _ (phA_self hI) (by first | rfl | trivial) (fun _ _ _ _ _ h => h))
    · unfold StepGPR; rw [if_pos (by kernel_rfl)]; intro a1 wx L hs hdf hfar hold hI hno hup hdeps K hK; have HOLD := hid hold; clear hold
      have hK := phK_plain (i := 7) (by kernel_rfl) hK
      have hS : Lx W wx (some d) [(R, [.int .i64 0, .int .i64 0, .int .i64 0], 23)] := hI
      have e6 : a1.eval (.tmp 12) = .pointer (some ⟨d, 0, none⟩) := hdeps 6 (by kernel_rfl) (by kernel_rfl) _ rfl
      refine wp_fn 21 [.tmp 12, .const (.int .i64 3)] _ rfl [.pointer (some ⟨d, 0, none⟩), .int .i64 3] (by simp only [List.map_cons, List.map_nil, e6]; rfl) enter_next (next_any d 3 (by omega) (by omega) wx hS.diceAt) ?_
      rintro e wy ⟨⟨r, rfl, r0, r1⟩, hk, hb⟩
      exact ⟨_, rfl, hK _ _ (hS.next hk hb) ⟨r, rfl, r0, r1⟩ (fun j oj _ _ _ h => FM8_but hdR hb _ _ _ h)⟩
    · unfold StepGPR; rw [if_pos (by kernel_rfl)]; intro a1 wx L hs hdf hfar hold hI hno hup hdeps K hK; have HOLD := hid hold; clear hold
      have hK := phK_plain (i := 8) (by kernel_rfl) hK
      have hk : ([15] : List Nat).countP L = 0 := by simp [hno 15 (by kernel_rfl)]
      obtain ⟨G, e1, hB⟩ := (show ∃ G : Nat, (a1.eval (.tmp 11)) = .slice (some ⟨G, 0, none⟩) 3 3 ∧ NB wx R G [.int .i64 1, .int .i64 1000, .int .i64 65536] 3 from phF_at hk (hdeps 5 (by kernel_rfl) (by kernel_rfl) _ rfl))
      obtain ⟨x, e2, x0, x1⟩ := (show ∃ x : Int, (a1.eval (.tmp 13)) = .int .i64 x ∧ 0 ≤ x ∧ x < 3 from phF_at hk (hdeps 7 (by kernel_rfl) (by kernel_rfl) _ rfl))
      rw [hk] at hK
      refine wp_index_addr _ 3 _ _ rfl Try.underlying33 1 (by kernel_rfl) G 0 3 3 e1 .i64 x e2 x0 (by omega) ?_
      exact hK _ _ (phA_at hk hI) ⟨G, x.toNat, by rw [Nat.zero_add, Nat.mul_one]; rfl, hB, by omega⟩ (fun _ _ _ _ _ h => h)
    · unfold StepGPR; rw [if_pos (by kernel_rfl)]; intro a1 wx L hs hdf hfar hold hI hno hup hdeps K hK; have HOLD := hid hold; clear hold
      have hK := phK_plain (i := 9) (by kernel_rfl) hK
      have hk : ([15] : List Nat).countP L = 0 := by simp [hno 15 (by kernel_rfl)]
      obtain ⟨G, x, e1, hB, hx⟩ := (show ∃ G x : Nat, (a1.eval (.tmp 14)) = .pointer (some ⟨G, x, none⟩) ∧ NB wx R G [.int .i64 1, .int .i64 1000, .int .i64 65536] 3 ∧ x < 3 from phF_at hk (hdeps 8 (by kernel_rfl) (by kernel_rfl) _ rfl))
      rw [hk] at hK
      obtain ⟨y, hc, y0, y1⟩ := lit3 hB.1 x hx
      have x1 := tmp_eval e1
      have HI := hid (phA_at hk hI)
      have HK := hid hK
      clear hdf hs hfar hdeps hI hno hup hK hB e1
      go_simp
      exact HK.out _ _ HI.out ⟨y, rfl, y0, y1⟩ (fun _ _ _ _ _ h => h)
    · unfold StepGPR; rw [if_pos (by kernel_rfl)]; intro a1 wx L hs hdf hfar hold hI hno hup hdeps K hK; have HOLD := hid hold; clear hold
      have hK := phK_plain (i := 10) (by kernel_rfl) hK
      have hS : Lx W wx (some d) [(R, [.int .i64 0, .int .i64 0, .int .i64 0], 23)] := hI
      obtain ⟨t, e1, t0, t1⟩ := (show ∃ t : Int, (a1.eval (.tmp 10)) = .int .i64 t ∧ 1 ≤ t ∧ t ≤ 8388607 from phF_self (hdeps 4 (by kernel_rfl) (by kernel_rfl) _ rfl))
      obtain ⟨r, e2, r0, r1⟩ := (show ∃ r : Int, (a1.eval (.tmp 15)) = .int .i64 r ∧ 1 ≤ r ∧ r ≤ 65536 from phF_self (hdeps 9 (by kernel_rfl) (by kernel_rfl) _ rfl))
      refine wp_fn 16 [.tmp 10, .tmp 15] _ rfl [.int .i64 t, .int .i64 r] (by simp only [List.map_cons, List.map_nil, e1, e2]) enter_rnew (rlnew_any t r wx ⟨t0, t1⟩ ⟨r0, r1⟩) ?_
      rintro e wy ⟨rfl, hb⟩
      exact ⟨_, rfl, hK _ _ (hS.kept hb) ⟨t, r, rfl, ⟨t0, t1⟩, r0, r1⟩ (fun j oj _ _ _ h => FM8_below hb _ _ _ h)⟩
    · unfold StepGPR; rw [if_pos (by kernel_rfl)]; intro a1 wx L hs hdf hfar hold hI hno hup hdeps K hK; have HOLD := hid hold; clear hold
      have hK := phK_plain (i := 11) (by kernel_rfl) hK
      exact wp_move (.tmp 16) (.inl rfl) _ rfl (hK _ _ (phA_self hI) (phF_self (hdeps 10 (by kernel_rfl) (by kernel_rfl) _ rfl)) (fun _ _ _ _ _ h => h))
    · unfold StepGPR; rw [if_pos (by kernel_rfl)]; intro a1 wx L hs hdf hfar hold hI hno hup hdeps K hK; have HOLD := hid hold; clear hold
      have hK := phK_plain (i := 12) (by kernel_rfl) hK
      obtain ⟨t, r, e1, hTR⟩ := (show ∃ t r : Int, (a1.eval (.tmp 5)) = .tuple #[.agg #[.int .i64 t, .int .i64 r, .int .i64 65536], .int .i64 0] ∧ (1 ≤ t ∧ t ≤ 8388607) ∧ (1 ≤ r ∧ r ≤ 65536) from phF_self (hdeps 11 (by kernel_rfl) (by kernel_rfl) _ rfl))
      have x1 := tmp_eval e1
      have HI := hid (phA_self hI)
      have HK := hid hK
      have HTR := hid hTR
      clear hdf hs hfar hdeps hI hno hup hK hTR e1
      go_simp
      exact HK.out _ _ HI.out ⟨t, r, rfl, HTR.out⟩ (fun _ _ _ _ _ h => h)
    · unfold StepGPR; rw [if_pos (by kernel_rfl)]; intro a1 wx L hs hdf hfar hold hI hno hup hdeps K hK; have HOLD := hid hold; clear hold
      have hK := phK_plain (i := 13) (by kernel_rfl) hK
      obtain ⟨t, r, e1, hTR⟩ := (show ∃ t r : Int, (a1.eval (.tmp 5)) = .tuple #[.agg #[.int .i64 t, .int .i64 r, .int .i64 65536], .int .i64 0] ∧ (1 ≤ t ∧ t ≤ 8388607) ∧ (1 ≤ r ∧ r ≤ 65536) from phF_self (hdeps 11 (by kernel_rfl) (by kernel_rfl) _ rfl))
      have x1 := tmp_eval e1
      have HI := hid (phA_self hI)
      have HK := hid hK
      have HTR := hid hTR
      clear hdf hs hfar hdeps hI hno hup hK hTR e1
      go_simp
      exact HK.out _ _ HI.out rfl (fun _ _ _ _ _ h => h)
    · unfold StepGPR; rw [if_pos (by kernel_rfl)]; intro a1 wx L hs hdf hfar hold hI hno hup hdeps K hK; have HOLD := hid hold; clear hold
      have hK := phK_plain (i := 14) (by kernel_rfl) hK
      have hS : Lx W wx (some d) [(R, [.int .i64 0, .int .i64 0, .int .i64 0], 23)] := hI
      have hk : ([15] : List Nat).countP L = 0 := by simp [hno 15 (by kernel_rfl)]
      rw [hk] at hK
      have hb : Below wx.heap.size wx (wx.alloc (.cells #[.int .i64 0, .int .i64 0, .int .i64 0] 23)) := by go_grown
      have hB := NB.mk (lo := R) (Blk.alloc_new wx [.int .i64 0, .int .i64 0, .int .i64 0] 23) (hS.lt 0 rfl)
      have HI := hid (hS.kept hb)
      have HM := hid (FM8_below (W := W) (d := d) (R := R) hb)
      have HK := hid hK
      have HB := hid hB
      clear hB
      clear hdf hs hfar hdeps hI hno hup hK hb hS
      go_simp
      exact HK.out _ _ HI.out ⟨_, rfl, HB.out⟩ (fun j oj _ _ _ h => HM.out _ _ _ h)
    · unfold StepGPR; rw [if_pos (by kernel_rfl)]; intro a1 wx L hs hdf hfar hold hI hno hup hdeps K hK; have HOLD := hid hold; clear hold
      have hk : ([15] : List Nat).countP L = 0 := by simp [hno 15 (by kernel_rfl)]
      have hK := phK_write (i := 15) 0 hk (by rw [phN_count (by kernel_rfl) (hno 15 (by kernel_rfl)), hk]) hK
      have hS : Lx W wx (some d) [(R, [.int .i64 0, .int .i64 0, .int .i64 0], 23)] := phA_at hk hI
      obtain ⟨b, e1, hB⟩ := (show ∃ b : Nat, (a1.eval (.tmp 3)) = .pointer (some ⟨b, 0, none⟩) ∧ NB wx R b [.int .i64 0, .int .i64 0, .int .i64 0] 23 from phF_at hk (hdeps 14 (by kernel_rfl) (by kernel_rfl) _ rfl))
      obtain ⟨t, r, e2, hTR⟩ := (show ∃ t r : Int, (a1.eval (.tmp 17)) = .agg #[.int .i64 t, .int .i64 r, .int .i64 65536] ∧ (1 ≤ t ∧ t ≤ 8388607) ∧ (1 ≤ r ∧ r ≤ 65536) from phF_at hk (hdeps 12 (by kernel_rfl) (by kernel_rfl) _ rfl))
      refine wp_store_blk _ _ _ rfl b e1 [.int .i64 t, .int .i64 r, .int .i64 65536] e2 _ _ hB.1 rfl (by kernel_rfl) (by intro v hv; simp at hv; rcases hv with rfl | rfl | rfl <;> rfl) ?_
      intro w' hb' ho
      have hRb := hB.2
      have hR := hS.ge 0 rfl
      refine hK undef w' (hS.only ho (by omega) (by intro x hx; simp at hx; subst hx; simp; omega) (fun d' e => by cases e; omega)) trivial ?_
      intro j oj hj hji hl hf
      have hu : j = 14 → slotOf a1 oj = .pointer (some ⟨b, 0, none⟩) := by intro e; subst e; cases hj; exact e1
      revert hf hu
      generalize slotOf a1 oj = u
      intro hf hu
      match j with
      | 14 => obtain rfl := hu rfl; exact ⟨b, t, r, rfl, ⟨hb', hRb⟩, hTR⟩
      | 0 => exact trivial
      | 3 => exact trivial
      | 5 => exact trivial
      | 8 => exact trivial
      | 15 => exact trivial
      | 1 => exact hf
      | 2 => exact hf
      | 4 => exact hf
      | 6 => exact hf
      | 7 => exact hf
      | 9 => exact hf
      | 10 => exact hf
      | 11 => exact hf
      | 12 => exact hf
      | 13 => exact hf
      | 16 => exact hf
      | j + 17 => exact trivial
    · unfold StepGPR; rw [if_pos (by kernel_rfl)]; intro a1 wx L hs hdf hfar hold hI hno hup hdeps K hK; have HOLD := hid hold; clear hold
      have hK := phK_plain (i := 16) (by kernel_rfl) hK
      exact wp_move (.tmp 18) (.inr rfl) _ rfl (hK _ _ (phA_self hI) (phF_self (hdeps 13 (by kernel_rfl) (by kernel_rfl) _ rfl)) (fun _ _ _ _ _ h => h))
  · intro vs wx L hvs hall hI hF
    obtain ⟨v0, r0, rfl, h0r⟩ := list_open hvs
    obtain ⟨v1, r1, rfl, h1r⟩ := list_open h0r
    obtain ⟨v2, r2, rfl, h2r⟩ := list_open h1r
    obtain ⟨v3, r3, rfl, h3r⟩ := list_open h2r
    obtain ⟨v4, r4, rfl, h4r⟩ := list_open h3r
    obtain ⟨v5, r5, rfl, h5r⟩ := list_open h4r
    obtain ⟨v6, r6, rfl, h6r⟩ := list_open h5r
    obtain ⟨v7, r7, rfl, h7r⟩ := list_open h6r
    obtain ⟨v8, r8, rfl, h8r⟩ := list_open h7r
    obtain ⟨v9, r9, rfl, h9r⟩ := list_open h8r
    obtain ⟨v10, r10, rfl, h10r⟩ := list_open h9r
    obtain ⟨v11, r11, rfl, h11r⟩ := list_open h10r
    obtain ⟨v12, r12, rfl, h12r⟩ := list_open h11r
    obtain ⟨v13, r13, rfl, h13r⟩ := list_open h12r
    obtain ⟨v14, r14, rfl, h14r⟩ := list_open h13r
    obtain ⟨v15, r15, rfl, h15r⟩ := list_open h14r
    obtain ⟨v16, r16, rfl, h16r⟩ := list_open h15r
    obtain rfl : r16 = [] := List.eq_nil_of_length_eq_zero h16r
    clear h0r h1r h2r h3r h4r h5r h6r h7r h8r h9r h10r h11r h12r h13r h14r h15r
    have hk : ([15] : List Nat).countP L = 1 := by simp [hall 15 (Nat.le_of_ble_eq_true rfl)]
    have f1 : v1 = .pointer (some ⟨d, 0, none⟩) := phF_at hk (hF 1 (Nat.le_of_ble_eq_true rfl))
    have f2 : ∃ x : Int, v2 = .int .i64 x ∧ 0 ≤ x ∧ x < 4 := phF_at hk (hF 2 (Nat.le_of_ble_eq_true rfl))
    have f4 : ∃ t : Int, v4 = .int .i64 t ∧ 1 ≤ t ∧ t ≤ 8388607 := phF_at hk (hF 4 (Nat.le_of_ble_eq_true rfl))
    have f6 : v6 = .pointer (some ⟨d, 0, none⟩) := phF_at hk (hF 6 (Nat.le_of_ble_eq_true rfl))
    have f7 : ∃ x : Int, v7 = .int .i64 x ∧ 0 ≤ x ∧ x < 3 := phF_at hk (hF 7 (Nat.le_of_ble_eq_true rfl))
    have f9 : ∃ r : Int, v9 = .int .i64 r ∧ 1 ≤ r ∧ r ≤ 65536 := phF_at hk (hF 9 (Nat.le_of_ble_eq_true rfl))
    have f10 : ∃ t r : Int, v10 = .tuple #[.agg #[.int .i64 t, .int .i64 r, .int .i64 65536], .int .i64 0] ∧ (1 ≤ t ∧ t ≤ 8388607) ∧ (1 ≤ r ∧ r ≤ 65536) := phF_at hk (hF 10 (Nat.le_of_ble_eq_true rfl))
    have f11 : ∃ t r : Int, v11 = .tuple #[.agg #[.int .i64 t, .int .i64 r, .int .i64 65536], .int .i64 0] ∧ (1 ≤ t ∧ t ≤ 8388607) ∧ (1 ≤ r ∧ r ≤ 65536) := phF_at hk (hF 11 (Nat.le_of_ble_eq_true rfl))
    have f12 : ∃ t r : Int, v12 = .agg #[.int .i64 t, .int .i64 r, .int .i64 65536] ∧ (1 ≤ t ∧ t ≤ 8388607) ∧ (1 ≤ r ∧ r ≤ 65536) := phF_at hk (hF 12 (Nat.le_of_ble_eq_true rfl))
    have f13 : v13 = .int .i64 0 := phF_at hk (hF 13 (Nat.le_of_ble_eq_true rfl))
    have f14 : ∃ (b : Nat) (t r : Int), v14 = .pointer (some ⟨b, 0, none⟩) ∧ NB wx R b [.int .i64 t, .int .i64 r, .int .i64 65536] 23 ∧ (1 ≤ t ∧ t ≤ 8388607) ∧ (1 ≤ r ∧ r ≤ 65536) := phF_at hk (hF 14 (Nat.le_of_ble_eq_true rfl))
    have f16 : v16 = .int .i64 0 := phF_at hk (hF 16 (Nat.le_of_ble_eq_true rfl))
    have hS : Lx W wx (some d) [(R, [.int .i64 0, .int .i64 0, .int .i64 0], 23)] := phA_at hk hI
    clear hk hI hF hall
    subst f1
    subst f6
    subst f13
    subst f16
    simp only [putVals, List.setIfInBounds_toArray, List.set_cons_zero, List.set_cons_succ]
    obtain ⟨b, t, r, rfl, hB, hT, hRr⟩ := f14
    have hRb := hB.2
    have hW0 := hS.ge 0 rfl
    have HL1 := hid (hS.enter hB.1 (by omega) (fun d' e => by cases e; omega) (by intro x hx; simp at hx; subst hx; simp; omega))
    have HT := hid hT
    have HR := hid hRr
    clear hB hS hT hRr f2 f4 f7 f9 f10 f11 f12 hI0
    go_wp2_with fail
    have hA : Below wx.heap.size wx (wx.alloc (Obj.cells #[Value.int IntKind.i64 65536, Value.int IntKind.i64 0, Value.int IntKind.i64 1, Value.int IntKind.i64 30000] 3)) := by go_grown
    have H2 := hid (HL1.out.kept hA)
    have hB := Blk.alloc_new wx [Value.int IntKind.i64 65536, Value.int IntKind.i64 0, Value.int IntKind.i64 1, Value.int IntKind.i64 30000] 3
    have hdl2 := HL1.out.diceAt.lt
    (with_reducible refine (next_any d 4 (by omega) (by omega) _ H2.out.diceAt).mono ?_); rintro e w2 ⟨⟨j, rfl, j0, j1⟩, hk2, hb2⟩
    have H3 := hid (H2.out.next hk2 hb2)
    have hB2 := hB.only (d := d) ⟨hb2.os, hb2.tape, hb2.output, hb2.size, hb2.block⟩ (by omega)
    clear hk2 hb2 H2 hA hB HL1
    generalize wx.heap.size = G at *
    obtain ⟨y, hc, y0, y1⟩ := lit4b hB2 j.toNat (by omega)
    have hc2 : w2.cell? ⟨G, 0 + j.toNat, none⟩ = some (.int .i64 y) := by rw [Nat.zero_add]; exact hc
    have hL := H3.out.facts
    simp only [liveAt, cellsAt, and_true, Nat.zero_add, Nat.reduceAdd] at hL
    have hbR : ¬ b = R := by omega
    have hRb2 : ¬ R = b := by omega
    clear hB2
    go_wp2_with fail
    have hf := (((H3.out.set 0 2 (.int .i64 y) rfl).set 1 0 (.int .i64 t) rfl).set 1 1 (.int .i64 r) rfl).set 1 2 (.int .i64 y) rfl
    refine bodyPost_ret (v := .agg #[.int .i64 t, .int .i64 r, .int .i64 y]) (by simp [results, Try.results10, go_sem, *]) rfl ?_
    exact ⟨⟨t, r, y, rfl, HT.out, HR.out, y0, y1⟩, hf.diceAt, hf.but⟩
end Go.Proofs.Ytbcifmddbhnkhaa
