/- Two blocks in a row, by the reference. No statement is proved here. -/
import Derived.Test.YtbcifmddbhnkhaaRegR
import Derived.Deep.DeepCutAuto
import Derived.Lib.AppendZeros
namespace Go.Proofs.Ytbcifmddbhnkhaa
open Go.ChangeShapes Go.WideShapes Go.ChangeAt Go.RowKit
set_option linter.unusedVariables false
set_option linter.unusedSimpArgs false

def FJ4A (W : World) (R B1 B2 : Nat) (x1 x2 : Int) (p1 : Option Addr) (n1 c1 : Nat) (l1 : List Int) (p2 : Option Addr) (n2 c2 : Nat) (l2 : List Int) : Nat → World → Prop
  | 0, w => Lx W w none [(R, [.int .i64 0, .slice none 0 0], 36), (B2, [.int .i64 x2, .slice p2 n2 c2], 36), (B1, [.int .i64 x1, .slice p1 n1 c1], 36)]
  | 1, w => Lx W w none [(R, [.int .i64 0, .slice none 0 0], 36), (B2, [.int .i64 x2, .slice p2 n2 c2], 36), (B1, [.int .i64 x1, .slice p1 n1 c1], 36)]
  | 2, w => Lx W w none [(R, [.int .i64 0, .slice none 0 0], 36), (B2, [.int .i64 x2, .slice p2 n2 c2], 36), (B1, [.int .i64 x1, .slice p1 n1 c1], 36)]
  | _, w => ∃ r : List Value, Lx W w none [(R, r, 36), (B2, [.int .i64 x2, .slice p2 n2 c2], 36), (B1, [.int .i64 x1, .slice p1 n1 c1], 36)]
def FJ4 (W : World) (R B1 B2 : Nat) (x1 x2 : Int) (p1 : Option Addr) (n1 c1 : Nat) (l1 : List Int) (p2 : Option Addr) (n2 c2 : Nat) (l2 : List Int) (ph : Nat) : Nat → Value → World → Prop
  | 0, v, w => v = .pointer (some ⟨B1, 0, none⟩)
  | 1, v, w => v = .int .i64 x1
  | 2, v, w => v = .pointer (some ⟨B1, 1, none⟩)
  | 3, v, w => v = .slice p1 n1 c1
  | 4, v, w => match ph with | 0 => True | 1 => La W w none [(R, [.int .i64 0, .slice none 0 0], 36), (B2, [.int .i64 x2, .slice p2 n2 c2], 36), (B1, [.int .i64 x1, .slice p1 n1 c1], 36)] 21 1 v n1 (l1.map (Value.int .i32)) | 2 => True | _ => True
  | 5, v, w => v = .pointer (some ⟨B2, 1, none⟩)
  | 6, v, w => v = .slice p2 n2 c2
  | 7, v, w => match ph with | 0 => True | 1 => True | 2 => La W w none [(R, [.int .i64 0, .slice none 0 0], 36), (B2, [.int .i64 x2, .slice p2 n2 c2], 36), (B1, [.int .i64 x1, .slice p1 n1 c1], 36)] 21 1 v (n1 + n2) ((l1 ++ l2).map (Value.int .i32)) | _ => True
  | 8, v, w => match ph with | 0 => True | 1 => True | 2 => ∃ va, v = .agg #[.int .i64 x1, va] ∧ La W w none [(R, [.int .i64 0, .slice none 0 0], 36), (B2, [.int .i64 x2, .slice p2 n2 c2], 36), (B1, [.int .i64 x1, .slice p1 n1 c1], 36)] 21 1 va (n1 + n2) ((l1 ++ l2).map (Value.int .i32)) | _ => ∃ va, v = .agg #[.int .i64 x1, va] ∧ La W w none [(R, [.int .i64 x1, va], 36), (B2, [.int .i64 x2, .slice p2 n2 c2], 36), (B1, [.int .i64 x1, .slice p1 n1 c1], 36)] 21 1 va (n1 + n2) ((l1 ++ l2).map (Value.int .i32))
  | _, _, _ => True
theorem FJ4A_any {W w : World} {R B1 B2 k : Nat} {x1 x2 : Int} {p1 : Option Addr} {n1 c1 : Nat} {l1 : List Int} {p2 : Option Addr} {n2 c2 : Nat} {l2 : List Int} (h : FJ4A W R B1 B2 x1 x2 p1 n1 c1 l1 p2 n2 c2 l2 k w) : ∃ r : List Value, Lx W w none [(R, r, 36), (B2, [.int .i64 x2, .slice p2 n2 c2], 36), (B1, [.int .i64 x1, .slice p1 n1 c1], 36)] := by
  rcases k with _ | _ | _ | k
  · exact ⟨_, h⟩
  · exact ⟨_, h⟩
  · exact ⟨_, h⟩
  · exact h
theorem own_slice {w : World} {B : Nat} {e : TypeId} {sz n : Nat} {v : Value} {xs : List Value} (h : w.ownsRow B e sz v n xs) : ∃ a m c, v = .slice a m c := by
  rcases h.2 with ⟨rfl, _⟩ | ⟨g, cap, cur, rfl, _⟩ <;> exact ⟨_, _, _, rfl⟩
theorem hva1 {W w : World} {e : TypeId} {n : Nat} {xs : List Value} (v : Value) (h : w.ownsRow W.heap.size e 1 v n xs) : v.oneCell' = true := by
  rcases h.2 with ⟨rfl, _⟩ | ⟨g, cap, cur, rfl, _⟩ <;> rfl
set_option maxRecDepth 100000 in
set_option maxHeartbeats 8000000 in
theorem join_any (x1 x2 : Int) (p1 : Option Addr) (n1 c1 : Nat) (l1 : List Int) (p2 : Option Addr) (n2 c2 : Nat) (l2 : List Int) (W : World) (h1 : Sl .i32 W p1 n1 c1 l1) (h2 : Sl .i32 W p2 n2 c2 l2) (hn : n1 + n2 ≤ 1000000000) :
    Calls Try.prog 22 #[.agg #[.int .i64 x1, .slice p1 n1 c1], .agg #[.int .i64 x2, .slice p2 n2 c2]] W fun e w' => ∃ va, e = .returned (.agg #[.int .i64 x1, va]) ∧ La W w' none [] 21 1 va (n1 + n2) ((l1 ++ l2).map (Value.int .i32)) := by
  have HS1 := hid h1
  have HS2 := hid h2
  have hx0 := ((((Lx.start W).alloc (vs := [.int .i64 x1, .slice p1 n1 c1]) (T := 36)).alloc (vs := [.int .i64 x2, .slice p2 n2 c2]) (T := 36)).alloc (vs := [.int .i64 0, .slice none 0 0]) (T := 36)).drew
  simp only [World.size_alloc] at hx0
  clear h1 h2
  go_enter Try.func22, Try.ntmps22
  go_upto_region 1 with (fail)
  generalize ((W.alloc (.cells #[.int .i64 x1, .slice p1 n1 c1] 36)).alloc (.cells #[.int .i64 x2, .slice p2 n2 c2] 36)).alloc (.cells #[.int .i64 0, .slice none 0 0] 36) = W1 at *
  obtain ⟨R, hR⟩ : ∃ R, W.heap.size + 1 + 1 = R := ⟨_, rfl⟩
  obtain ⟨B2, hB2⟩ : ∃ B2, W.heap.size + 1 = B2 := ⟨_, rfl⟩
  obtain ⟨B1, hB1⟩ : ∃ B1, W.heap.size = B1 := ⟨_, rfl⟩
  simp only [hR] at hx0 ⊢
  simp only [hB2] at hx0 ⊢
  simp only [hB1] at hx0 ⊢
  have hI0 := hx0
  clear hR hB2 hB1
  refine wp_region_factsR (ops := [_, _, _, _, _, _, _, _, _, _]) (fun _ => none) (phA [4, 7, 9] (FJ4A W R B1 B2 x1 x2 p1 n1 c1 l1 p2 n2 c2 l2)) (phF [4, 7, 9] (FJ4 W R B1 B2 x1 x2 p1 n1 c1 l1 p2 n2 c2 l2)) (by kernel_rfl) (by kernel_rfl) (by kernel_rfl) (show (FJ4A W R B1 B2 x1 x2 p1 n1 c1 l1 p2 n2 c2 l2) 0 _ from hI0) ?_ (by kernel_rfl) ?_ ?_
  · intro g b h; cases h
  · refine ⟨?_, ?_, ?_, ?_, ?_, ?_, ?_, ?_, ?_, ?_, trivial⟩
    · unfold StepGPR; rw [if_pos (by kernel_rfl)]; intro a1 wx L hs hdf hfar hold hI hno hup hdeps K hK; have HOLD := hid hold; clear hold
      have hK := phK_plain (i := 0) (by kernel_rfl) hK
      have ef2 : a1.eval (.tmp 2) = .pointer (some ⟨B1, 0, none⟩) := far_eval (hfar 2 (by kernel_rfl)) rfl
      have x1_ := tmp_eval ef2
      have HI := hid (phA_self hI)
      have HK := hid hK
      clear ef2
      clear hdf hs hfar hdeps hI hno hup hK
      go_simp
      exact HK.out _ _ HI.out (by first | rfl | (show _ = _; simp [*]; done)) (fun _ _ _ _ _ h => h)
    · unfold StepGPR; rw [if_pos (by kernel_rfl)]; intro a1 wx L hs hdf hfar hold hI hno hup hdeps K hK; have HOLD := hid hold; clear hold
      have hK := phK_plain (i := 1) (by kernel_rfl) hK
      obtain ⟨r, hS⟩ := FJ4A_any (phA_self hI)
      obtain e1 := (show (a1.eval (.tmp 5)) = .pointer (some ⟨B1, 0, none⟩) from phF_self (hdeps 0 (by kernel_rfl) (by kernel_rfl) _ rfl))
      have x1_ := tmp_eval e1
      have hc := hS.cell 2 0 rfl rfl
      have HI := hid (phA_self hI)
      have HK := hid hK
      clear e1 hS
      clear hdf hs hfar hdeps hI hno hup hK
      go_simp
      exact HK.out _ _ HI.out (by first | rfl | (show _ = _; simp [*]; done)) (fun _ _ _ _ _ h => h)
    · unfold StepGPR; rw [if_pos (by kernel_rfl)]; intro a1 wx L hs hdf hfar hold hI hno hup hdeps K hK; have HOLD := hid hold; clear hold
      have hK := phK_plain (i := 2) (by kernel_rfl) hK
      have ef2 : a1.eval (.tmp 2) = .pointer (some ⟨B1, 0, none⟩) := far_eval (hfar 2 (by kernel_rfl)) rfl
      have x1_ := tmp_eval ef2
      have HI := hid (phA_self hI)
      have HK := hid hK
      clear ef2
      clear hdf hs hfar hdeps hI hno hup hK
      go_simp
      exact HK.out _ _ HI.out (by first | rfl | (show _ = _; simp [*]; done)) (fun _ _ _ _ _ h => h)
    · unfold StepGPR; rw [if_pos (by kernel_rfl)]; intro a1 wx L hs hdf hfar hold hI hno hup hdeps K hK; have HOLD := hid hold; clear hold
      have hK := phK_plain (i := 3) (by kernel_rfl) hK
      obtain ⟨r, hS⟩ := FJ4A_any (phA_self hI)
      obtain e1 := (show (a1.eval (.tmp 7)) = .pointer (some ⟨B1, 1, none⟩) from phF_self (hdeps 2 (by kernel_rfl) (by kernel_rfl) _ rfl))
      have x1_ := tmp_eval e1
      have hc := hS.cell 2 1 rfl rfl
      have HI := hid (phA_self hI)
      have HK := hid hK
      clear e1 hS
      clear hdf hs hfar hdeps hI hno hup hK
      go_simp
      exact HK.out _ _ HI.out (by first | rfl | (show _ = _; simp [*]; done)) (fun _ _ _ _ _ h => h)
    · unfold StepGPR; rw [if_pos (by kernel_rfl)]; intro a1 wx L hs hdf hfar hold hI hno hup hdeps K hK; have HOLD := hid hold; clear hold
      have hk : ([4, 7, 9] : List Nat).countP L = 0 := by simp [hno 4 (by kernel_rfl), hno 7 (by kernel_rfl), hno 9 (by kernel_rfl)]
      have hK := phK_write (i := 4) 0 hk (by rw [phN_count (by kernel_rfl) (hno 4 (by kernel_rfl)), hk]) hK
      obtain e1 := (show (a1.eval (.tmp 8)) = .slice p1 n1 c1 from phF_at hk (hdeps 3 (by kernel_rfl) (by kernel_rfl) _ rfl))
      have hx : Lx W wx none [(R, [.int .i64 0, .slice none 0 0], 36), (B2, [.int .i64 x2, .slice p2 n2 c2], 36), (B1, [.int .i64 x1, .slice p1 n1 c1], 36)] := phA_at hk hI
      obtain ⟨va, w2, hr, hla⟩ := run_append_la_sl (P := Try.prog) (t := 34) (ty := 34) (z := .int .i32 0) (bs := 4) Try.underlying34 (by kernel_rfl) rfl (La.nil (e := 21) (sz := 1) hx) (hx.slN HS1.out) (by rw [Nat.zero_add]; unfold maxLen; omega) (by omega)
      rw [Nat.zero_add, List.nil_append] at hla
      refine Lib.wp_append_run wx _ (.tmp 8) _ _ rfl _ _ rfl e1 _ _ hr (hK _ _ hla.lx hla ?_)
      intro j oj hj hji hl hf
      match j with
      | 4 => exact absurd rfl hji
      | 0 => exact hf
      | 1 => exact hf
      | 2 => exact hf
      | 3 => exact hf
      | 5 => exact hf
      | 6 => exact hf
      | 7 => exact trivial
      | 8 => exact trivial
      | 9 => exact trivial
      | j + 10 => exact trivial
    · unfold StepGPR; rw [if_pos (by kernel_rfl)]; intro a1 wx L hs hdf hfar hold hI hno hup hdeps K hK; have HOLD := hid hold; clear hold
      have hK := phK_plain (i := 5) (by kernel_rfl) hK
      have ef3 : a1.eval (.tmp 3) = .pointer (some ⟨B2, 0, none⟩) := far_eval (hfar 3 (by kernel_rfl)) rfl
      have x1_ := tmp_eval ef3
      have HI := hid (phA_self hI)
      have HK := hid hK
      clear ef3
      clear hdf hs hfar hdeps hI hno hup hK
      go_simp
      exact HK.out _ _ HI.out (by first | rfl | (show _ = _; simp [*]; done)) (fun _ _ _ _ _ h => h)
    · unfold StepGPR; rw [if_pos (by kernel_rfl)]; intro a1 wx L hs hdf hfar hold hI hno hup hdeps K hK; have HOLD := hid hold; clear hold
      have hK := phK_plain (i := 6) (by kernel_rfl) hK
      obtain ⟨r, hS⟩ := FJ4A_any (phA_self hI)
      obtain e1 := (show (a1.eval (.tmp 10)) = .pointer (some ⟨B2, 1, none⟩) from phF_self (hdeps 5 (by kernel_rfl) (by kernel_rfl) _ rfl))
      have x1_ := tmp_eval e1
      have hc := hS.cell 1 1 rfl rfl
      have HI := hid (phA_self hI)
      have HK := hid hK
      clear e1 hS
      clear hdf hs hfar hdeps hI hno hup hK
      go_simp
      exact HK.out _ _ HI.out (by first | rfl | (show _ = _; simp [*]; done)) (fun _ _ _ _ _ h => h)
    · unfold StepGPR; rw [if_pos (by kernel_rfl)]; intro a1 wx L hs hdf hfar hold hI hno hup hdeps K hK; have HOLD := hid hold; clear hold
      have hk : ([4, 7, 9] : List Nat).countP L = 1 := by simp [hup 4 (by kernel_rfl) (by kernel_rfl), hno 7 (by kernel_rfl), hno 9 (by kernel_rfl)]
      have hK := phK_write (i := 7) 1 hk (by rw [phN_count (by kernel_rfl) (hno 7 (by kernel_rfl)), hk]) hK
      obtain hla1 := (show La W wx none [(R, [.int .i64 0, .slice none 0 0], 36), (B2, [.int .i64 x2, .slice p2 n2 c2], 36), (B1, [.int .i64 x1, .slice p1 n1 c1], 36)] 21 1 (a1.eval (.tmp 9)) n1 (l1.map (Value.int .i32)) from phF_at hk (hdeps 4 (by kernel_rfl) (by kernel_rfl) _ rfl))
      obtain e2 := (show (a1.eval (.tmp 11)) = .slice p2 n2 c2 from phF_at hk (hdeps 6 (by kernel_rfl) (by kernel_rfl) _ rfl))
      obtain ⟨va, w2, hr, hla⟩ := run_append_la_sl (P := Try.prog) (t := 34) (ty := 34) (z := .int .i32 0) (bs := 4) Try.underlying34 (by kernel_rfl) rfl hla1 (hla1.lx.slN HS2.out) (by unfold maxLen; omega) (by omega)
      have hla3 : La W w2 none [(R, [.int .i64 0, .slice none 0 0], 36), (B2, [.int .i64 x2, .slice p2 n2 c2], 36), (B1, [.int .i64 x1, .slice p1 n1 c1], 36)] 21 1 va (n1 + n2) ((l1 ++ l2).map (Value.int .i32)) := by rw [List.map_append]; exact hla
      refine Lib.wp_append_run wx (.tmp 9) (.tmp 11) _ _ rfl _ _ rfl e2 _ _ hr (hK _ _ hla.lx hla3 ?_)
      have h8 := hno 8 (by kernel_rfl)
      intro j oj hj hji hl hf
      match j with
      | 7 => exact absurd rfl hji
      | 0 => exact hf
      | 1 => exact hf
      | 2 => exact hf
      | 3 => exact hf
      | 5 => exact hf
      | 6 => exact hf
      | 4 => exact trivial
      | 8 => rw [h8] at hl; cases hl
      | 9 => exact trivial
      | j + 10 => exact trivial
    · unfold StepGPR; rw [if_pos (by kernel_rfl)]; intro a1 wx L hs hdf hfar hold hI hno hup hdeps K hK; have HOLD := hid hold; clear hold
      have hK := phK_plain (i := 8) (by kernel_rfl) hK
      have hk : ([4, 7, 9] : List Nat).countP L = 2 := by simp [hup 4 (by kernel_rfl) (by kernel_rfl), hup 7 (by kernel_rfl) (by kernel_rfl), hno 9 (by kernel_rfl)]
      obtain e1 := (show (a1.eval (.tmp 6)) = .int .i64 x1 from phF_at hk (hdeps 1 (by kernel_rfl) (by kernel_rfl) _ rfl))
      obtain ⟨va, hva⟩ : ∃ va, a1.eval (.tmp 12) = va := ⟨_, rfl⟩
      obtain hla := (show La W wx none [(R, [.int .i64 0, .slice none 0 0], 36), (B2, [.int .i64 x2, .slice p2 n2 c2], 36), (B1, [.int .i64 x1, .slice p1 n1 c1], 36)] 21 1 (a1.eval (.tmp 12)) (n1 + n2) ((l1 ++ l2).map (Value.int .i32)) from phF_at hk (hdeps 7 (by kernel_rfl) (by kernel_rfl) _ rfl))
      rw [hva] at hla
      obtain ⟨pa, na, ca, rfl⟩ := own_slice hla.row
      have x1_ := tmp_eval e1
      have x2_ := tmp_eval hva
      rw [hk] at hK
      have HI := hid (phA_at hk hI)
      have HLA := hid hla
      have HK := hid hK
      clear e1 hva hla hk
      clear hdf hs hfar hdeps hI hno hup hK
      go_simp
      exact HK.out _ _ HI.out ⟨_, by first | rfl | (simp [*]; done), HLA.out⟩ (fun _ _ _ _ _ h => h)
    · unfold StepGPR; rw [if_pos (by kernel_rfl)]; intro a1 wx L hs hdf hfar hold hI hno hup hdeps K hK; have HOLD := hid hold; clear hold
      have hk : ([4, 7, 9] : List Nat).countP L = 2 := by simp [hup 4 (by kernel_rfl) (by kernel_rfl), hup 7 (by kernel_rfl) (by kernel_rfl), hno 9 (by kernel_rfl)]
      have hK := phK_write (i := 9) 2 hk (by rw [phN_count (by kernel_rfl) (hno 9 (by kernel_rfl)), hk]) hK
      obtain ⟨va, e8, hla⟩ := (show ∃ va, (a1.eval (.tmp 13)) = .agg #[.int .i64 x1, va] ∧ La W wx none [(R, [.int .i64 0, .slice none 0 0], 36), (B2, [.int .i64 x2, .slice p2 n2 c2], 36), (B1, [.int .i64 x1, .slice p1 n1 c1], 36)] 21 1 va (n1 + n2) ((l1 ++ l2).map (Value.int .i32)) from phF_at hk (hdeps 8 (by kernel_rfl) (by kernel_rfl) _ rfl))
      have e4 : a1.eval (.tmp 4) = .pointer (some ⟨R, 0, none⟩) := far_eval (hfar 4 (by kernel_rfl)) rfl
      have hBk := hla.lx.blk 0 rfl
      refine wp_store_blk _ _ _ rfl R e4 [.int .i64 x1, va] e8 _ _ hBk rfl (by kernel_rfl) (by intro v hv; simp at hv; rcases hv with rfl | rfl; exact rfl; exact hva1 _ hla.row) ?_
      intro w' hb' ho
      have hl4 := hla.onlySet 0 rfl ho hb'
      simp only [List.set_cons_zero] at hl4
      refine hK undef w' ⟨_, hl4.lx⟩ trivial ?_
      intro j oj hj hji hl hf
      have hu : j = 8 → slotOf a1 oj = .agg #[.int .i64 x1, va] := by intro e; subst e; cases hj; exact e8
      revert hf hu
      generalize slotOf a1 oj = u
      intro hf hu
      match j with
      | 9 => exact absurd rfl hji
      | 8 => exact ⟨va, hu rfl, hl4⟩
      | 4 => exact trivial
      | 7 => exact trivial
      | 0 => exact hf
      | 1 => exact hf
      | 2 => exact hf
      | 3 => exact hf
      | 5 => exact hf
      | 6 => exact hf
      | j + 10 => exact trivial
  · intro vs wx L hvs hall hI hF
    obtain ⟨v0, r0, rfl, h0r⟩ := list_open hvs
    obtain ⟨v1, r1, rfl, h1r⟩ := list_open h0r
    obtain ⟨v2, r2, rfl, h2r⟩ := list_open h1r
    obtain ⟨v3, r3, rfl, h3r⟩ := list_open h2r
    obtain ⟨v4, r4, rfl, h4r⟩ := list_open h3r
    obtain ⟨v5, r5, rfl, h5r⟩ := list_open h4r
    obtain ⟨v6, r6, rfl, h6r⟩ := list_open h5r
    obtain ⟨v7, r7, rfl, h7r⟩ := list_open h6r
    obtain ⟨v8, r8, rfl, h8r⟩ := list_open h7r
    obtain ⟨v9, r9, rfl, h9r⟩ := list_open h8r
    obtain rfl : r9 = [] := List.eq_nil_of_length_eq_zero h9r
    clear h0r h1r h2r h3r h4r h5r h6r h7r h8r
    have hk : ([4, 7, 9] : List Nat).countP L = 3 := by simp [hall 4 (Nat.le_of_ble_eq_true rfl), hall 7 (Nat.le_of_ble_eq_true rfl), hall 9 (Nat.le_of_ble_eq_true rfl)]
    have f0 : v0 = .pointer (some ⟨B1, 0, none⟩) := phF_at hk (hF 0 (Nat.le_of_ble_eq_true rfl))
    have f1 : v1 = .int .i64 x1 := phF_at hk (hF 1 (Nat.le_of_ble_eq_true rfl))
    have f2 : v2 = .pointer (some ⟨B1, 1, none⟩) := phF_at hk (hF 2 (Nat.le_of_ble_eq_true rfl))
    have f3 : v3 = .slice p1 n1 c1 := phF_at hk (hF 3 (Nat.le_of_ble_eq_true rfl))
    have f5 : v5 = .pointer (some ⟨B2, 1, none⟩) := phF_at hk (hF 5 (Nat.le_of_ble_eq_true rfl))
    have f6 : v6 = .slice p2 n2 c2 := phF_at hk (hF 6 (Nat.le_of_ble_eq_true rfl))
    have f8 : ∃ va, v8 = .agg #[.int .i64 x1, va] ∧ La W wx none [(R, [.int .i64 x1, va], 36), (B2, [.int .i64 x2, .slice p2 n2 c2], 36), (B1, [.int .i64 x1, .slice p1 n1 c1], 36)] 21 1 va (n1 + n2) ((l1 ++ l2).map (Value.int .i32)) := phF_at hk (hF 8 (Nat.le_of_ble_eq_true rfl))
    have hS : ∃ r : List Value, Lx W wx none [(R, r, 36), (B2, [.int .i64 x2, .slice p2 n2 c2], 36), (B1, [.int .i64 x1, .slice p1 n1 c1], 36)] := phA_at hk hI
    clear hk hI hF hall
    subst f0
    subst f1
    subst f2
    subst f3
    subst f5
    subst f6
    simp only [putVals, List.setIfInBounds_toArray, List.set_cons_zero, List.set_cons_succ]
    obtain ⟨va, rfl, hla⟩ := f8
    have HLA := hid hla
    have hL := hla.lx.facts
    simp only [liveAt, cellsAt, and_true, Nat.zero_add, Nat.reduceAdd] at hL
    clear hla hS hx0 hI0
    go_wp2_with fail
    refine bodyPost_ret (v := .agg #[.int .i64 x1, va]) (by simp [results, Try.results22, go_sem, *]) rfl ?_
    exact ⟨va, rfl, HLA.out.sub (List.nil_sublist _)⟩
end Go.Proofs.Ytbcifmddbhnkhaa
