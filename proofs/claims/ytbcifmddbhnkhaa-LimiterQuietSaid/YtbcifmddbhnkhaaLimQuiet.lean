/- LimiterQuiet: the walk. -/
import Derived.Test.YtbcifmddbhnkhaaLimSane
import Derived.Test.YtbcifmddbhnkhaaLimLaws
namespace Go.Proofs.Ytbcifmddbhnkhaa
open Go.ChangeShapes Go.WideShapes Go.ChangeAt Go.RowKit
set_option linter.unusedVariables false
set_option linter.unusedSimpArgs false

def FQ8A (W : World) (d B k : Nat) (t r : Int) (va : Value) (l2 : List Int) : Nat → World → Prop
  | 0, w => La W w (some d) [(B, [.int .i64 t, .int .i64 r, .int .i64 65536], 23)] 2 1 va k (l2.map (Value.int .i64))
  | _, w => True
def FQ8 (W : World) (d B k : Nat) (t r : Int) (va : Value) (l2 : List Int) (ph : Nat) : Nat → Value → World → Prop
  | 0, v, w => v = va
  | 1, v, w => v = .pointer (some ⟨d, 0, none⟩)
  | 2, v, w => ∃ s : Int, v = .int .i32 s ∧ -8388608 ≤ s ∧ s ≤ 8388607
  | 3, v, w => ∃ s : Int, v = .int .i64 s ∧ -8388608 ≤ s ∧ s ≤ 8388607
  | 4, v, w => v = .pointer (some ⟨B, 0, none⟩)
  | 5, v, w => v = .int .i64 t
  | 6, v, w => v = .int .i64 (t + 1)
  | 7, v, w => ∃ s : Int, v = .int .i64 s ∧ -t ≤ s ∧ s ≤ t
  | 8, v, w => match ph with | 0 => ∃ (T : Nat) (s : Int), v = .slice (some ⟨T, 0, none⟩) 1 1 ∧ NB w d T [.int .i64 s] 2 ∧ -t ≤ s ∧ s ≤ t | _ => True
  | 9, v, w => ∃ s : Int, La W w (some d) [(B, [.int .i64 t, .int .i64 r, .int .i64 65536], 23)] 2 1 v (k + 1) ((l2 ++ [s]).map (Value.int .i64)) ∧ -t ≤ s ∧ s ≤ t
  | 10, v, w => ∃ s : Int, La W w (some d) [(B, [.int .i64 t, .int .i64 r, .int .i64 65536], 23)] 2 1 v (k + 1) ((l2 ++ [s]).map (Value.int .i64)) ∧ -t ≤ s ∧ s ≤ t
  | _, _, _ => True
theorem enter_sample : ∀ (ar : Array Value) (w : World), (callFunc 23 ar).run Try.prog w = .ok (.enter 23 ar) w := by
  intro ar w
  kernel_rfl
theorem mod_bd {r t : Int} (ht : 1 ≤ t) : -t ≤ r.tmod (t + 1) ∧ r.tmod (t + 1) ≤ t := by
  have h1 := Int.tmod_lt_of_pos r (show 0 < t + 1 by omega)
  have h2 := Int.lt_tmod_of_pos r (show 0 < t + 1 by omega)
  omega
set_option maxRecDepth 100000 in
set_option maxHeartbeats 16000000 in
theorem limiterQuiet_walk (a : Option Addr) (len cap : Nat) (l : List Int) (lo : Int) (W : World) (hs : Sl .u8 W a len cap l) (hlo : 0 ≤ lo ∧ lo ≤ 4294967295) :
    Calls Try.prog 6 #[.slice a len cap, .int .u32 lo] W fun e w' => e = .returned (.bool true) ∧ Below W.heap.size W w' := by
  have HS := hid hs
  obtain ⟨lo0, lo1⟩ := hlo
  clear hs
  go_enter Try.func6, Try.ntmps6
  go_wp2_with fail
  (with_reducible refine (sane_any _).mono ?_); rintro e w1 ⟨rfl, hb⟩; have H1 := hid ((Lx.start W).kept hb); clear hb
  go_wp2_with fail
  (with_reducible refine (new_any a len cap l _ (H1.out.slN HS.out)).mono ?_); rintro e w2 ⟨d, rfl, hd0, hdk, hb⟩; have hWd := Nat.le_trans H1.out.size hd0; have H2 := hid (H1.out.roll hb hdk); clear hb hdk hd0 H1 HS
  go_wp2_with fail
  (with_reducible refine (made_any d _ H2.out.diceAt).mono ?_); rintro e w3 ⟨⟨t, r, g, rfl, hT, hR, hG⟩, hk, hb⟩; have H3 := hid ((H2.out.next hk hb).alloc (vs := [.int .i64 t, .int .i64 r, .int .i64 g]) (T := 23)); clear hk hb H2
  have HT := hid hT; have HR := hid hR; have HG := hid hG; clear hT hR hG
  go_upto_region 5 with (fail)
  generalize w3.alloc (.cells #[.int .i64 t, .int .i64 r, .int .i64 g] 23) = W3 at *
  generalize w3.heap.size = B at *
  have hL := H3.out.facts
  simp only [liveAt, cellsAt, and_true, Nat.zero_add, Nat.reduceAdd] at hL
  go_upto_region 6 with (fail)
  have H4 := hid (H3.out.set 0 2 (.int .i64 65536) rfl)
  simp only [List.set_cons_zero, List.set_cons_succ] at H4
  clear hL H3
  generalize W3.setCell ⟨B, 2, none⟩ (.int .i64 65536) = W4 at *
  go_wp2_with fail
  go_loopw [7, 8] (fun v i wr => ∃ (k : Nat) (l : List Int) (va : Value), k ≤ 10 ∧ i = .int .i64 k ∧ va = v ∧ Hid (La W wr (some d) [(B, [.int .i64 t, .int .i64 r, .int .i64 65536], 23)] 2 1 va k (l.map (Value.int .i64))) ∧ Hid (l.length = k) ∧ Hid (∀ s ∈ l, -t ≤ s ∧ s ≤ t)) (fun _ i _ => 10 - (intOf i).toNat)
  case atStart => exact ⟨0, [], _, by omega, rfl, rfl, hid (La.nil H4.out), rfl, hid (fun s hs => (by cases hs))⟩
  case round =>
    obtain ⟨k, l2, va, hk, rfl, rfl, hla, HLL, HLS⟩ := hrel
    clear H4
    by_cases hlt : k < 10
    · have hkb : decide ((k : Int) < 10) = true := by simp; omega
      have hkz : (k : Int) < 10 := by omega
      go_upto_region 10 with (fail)
      have htb := HT.out
      refine wp_region_factsR (ops := [_, _, _, _, _, _, _, _, _, _, _]) (fun _ => none) (phA [9] (FQ8A W d B k t r va l2)) (phF [9] (FQ8 W d B k t r va l2)) (by kernel_rfl) (by kernel_rfl) (by kernel_rfl) (show (FQ8A W d B k t r va l2) 0 _ from hla.out.drew) ?_ (by kernel_rfl) ?_ ?_
      · intro g b h; cases h
      · refine ⟨?_, ?_, ?_, ?_, ?_, ?_, ?_, ?_, ?_, ?_, ?_, trivial⟩
        · unfold StepGPR; rw [if_pos (by kernel_rfl)]; intro a1 wx L hs hdf hfar hold hI hno hup hdeps K hK; have HOLD := hid hold; clear hold
          have hK := phK_plain (i := 0) (by kernel_rfl) hK
          exact wp_move (.tmp 7) (.inl rfl) _ (far_eval (HOLD.out 10 _ 7 rfl rfl (hno 10 (by kernel_rfl))) rfl) (hK _ _ (phA_self hI) (by first | rfl | trivial) (fun _ _ _ _ _ h => h))
        · unfold StepGPR; rw [if_pos (by kernel_rfl)]; intro a1 wx L hs hdf hfar hold hI hno hup hdeps K hK; have HOLD := hid hold; clear hold
          have hK := phK_plain (i := 1) (by kernel_rfl) hK
          exact wp_move (.tmp 5) (.inl rfl) _ (far_eval (hfar 5 (by kernel_rfl)) rfl) (hK _ _ (phA_self hI) (by first | rfl | trivial) (fun _ _ _ _ _ h => h))
        · unfold StepGPR; rw [if_pos (by kernel_rfl)]; intro a1 wx L hs hdf hfar hold hI hno hup hdeps K hK; have HOLD := hid hold; clear hold
          have hK := phK_plain (i := 2) (by kernel_rfl) hK
          have hk : ([9] : List Nat).countP L = 0 := by simp [hno 9 (by kernel_rfl)]
          have hS : La W wx (some d) [(B, [.int .i64 t, .int .i64 r, .int .i64 65536], 23)] 2 1 va k (l2.map (Value.int .i64)) := phA_at hk hI
          obtain e1 := (show (a1.eval (.tmp 33)) = .pointer (some ⟨d, 0, none⟩) from phF_at hk (hdeps 1 (by kernel_rfl) (by kernel_rfl) _ rfl))
          rw [hk] at hK
          refine wp_fn 23 [.tmp 33] _ rfl [.pointer (some ⟨d, 0, none⟩)] (by simp only [List.map_cons, List.map_nil, e1]) enter_sample (sample_any wx d hS.lx.diceAt) ?_
          rintro e wy ⟨⟨s, rfl, s0, s1⟩, hkd, hb⟩
          refine ⟨_, rfl, hK _ _ (hS.next hkd hb) ⟨s, rfl, s0, s1⟩ ?_⟩
          intro j oj hj hji hl hf
          have h8 := hno 8 (by kernel_rfl)
          have h9 := hno 9 (by kernel_rfl)
          have h10 := hno 10 (by kernel_rfl)
          match j with
          | 8 => rw [h8] at hl; cases hl
          | 9 => rw [h9] at hl; cases hl
          | 10 => rw [h10] at hl; cases hl
          | 0 => exact hf
          | 1 => exact hf
          | 2 => exact hf
          | 3 => exact hf
          | 4 => exact hf
          | 5 => exact hf
          | 6 => exact hf
          | 7 => exact hf
          | j + 11 => exact trivial
        · unfold StepGPR; rw [if_pos (by kernel_rfl)]; intro a1 wx L hs hdf hfar hold hI hno hup hdeps K hK; have HOLD := hid hold; clear hold
          have hK := phK_plain (i := 3) (by kernel_rfl) hK
          obtain ⟨s, e1, s0, s1⟩ := (show ∃ s : Int, (a1.eval (.tmp 34)) = .int .i32 s ∧ -8388608 ≤ s ∧ s ≤ 8388607 from phF_self (hdeps 2 (by kernel_rfl) (by kernel_rfl) _ rfl))
          have u1 : IntKind.i64.wrap s = s := IntWalk.i64_in _ (by omega)
          have x1 := tmp_eval e1
          have HI := hid (phA_self hI)
          have HK := hid hK
          clear e1
          clear hdf hs hfar hdeps hI hno hup hK
          go_simp
          exact HK.out _ _ HI.out ⟨s, rfl, s0, s1⟩ (fun _ _ _ _ _ h => h)
        · unfold StepGPR; rw [if_pos (by kernel_rfl)]; intro a1 wx L hs hdf hfar hold hI hno hup hdeps K hK; have HOLD := hid hold; clear hold
          have hK := phK_plain (i := 4) (by kernel_rfl) hK
          have ef6 : a1.eval (.tmp 6) = .pointer (some ⟨B, 0, none⟩) := far_eval (hfar 6 (by kernel_rfl)) rfl
          have x1 := tmp_eval ef6
          have HI := hid (phA_self hI)
          have HK := hid hK
          clear ef6
          clear hdf hs hfar hdeps hI hno hup hK
          go_simp
          exact HK.out _ _ HI.out (by first | rfl | (show _ = _; simp [*]; done)) (fun _ _ _ _ _ h => h)
        · unfold StepGPR; rw [if_pos (by kernel_rfl)]; intro a1 wx L hs hdf hfar hold hI hno hup hdeps K hK; have HOLD := hid hold; clear hold
          have hK := phK_plain (i := 5) (by kernel_rfl) hK
          have hk : ([9] : List Nat).countP L = 0 := by simp [hno 9 (by kernel_rfl)]
          have hS : La W wx (some d) [(B, [.int .i64 t, .int .i64 r, .int .i64 65536], 23)] 2 1 va k (l2.map (Value.int .i64)) := phA_at hk hI
          obtain e1 := (show (a1.eval (.tmp 36)) = .pointer (some ⟨B, 0, none⟩) from phF_at hk (hdeps 4 (by kernel_rfl) (by kernel_rfl) _ rfl))
          have x1 := tmp_eval e1
          rw [hk] at hK
          have hc := hS.lx.cell 0 0 rfl rfl
          have HI := hid hS
          have HK := hid hK
          clear e1 hS hk
          clear hdf hs hfar hdeps hI hno hup hK
          go_simp
          exact HK.out _ _ HI.out (by first | rfl | (show _ = _; simp [*]; done)) (fun _ _ _ _ _ h => h)
        · unfold StepGPR; rw [if_pos (by kernel_rfl)]; intro a1 wx L hs hdf hfar hold hI hno hup hdeps K hK; have HOLD := hid hold; clear hold
          have hK := phK_plain (i := 6) (by kernel_rfl) hK
          obtain e1 := (show (a1.eval (.tmp 37)) = .int .i64 t from phF_self (hdeps 5 (by kernel_rfl) (by kernel_rfl) _ rfl))
          have u1 : IntKind.i64.wrap (t + 1) = t + 1 := IntWalk.i64_in _ (by omega)
          have x1 := tmp_eval e1
          have HI := hid (phA_self hI)
          have HK := hid hK
          clear e1
          clear hdf hs hfar hdeps hI hno hup hK
          go_simp
          exact HK.out _ _ HI.out (by first | rfl | (show _ = _; simp [*]; done)) (fun _ _ _ _ _ h => h)
        · unfold StepGPR; rw [if_pos (by kernel_rfl)]; intro a1 wx L hs hdf hfar hold hI hno hup hdeps K hK; have HOLD := hid hold; clear hold
          have hK := phK_plain (i := 7) (by kernel_rfl) hK
          obtain ⟨s, e1, s0, s1⟩ := (show ∃ s : Int, (a1.eval (.tmp 35)) = .int .i64 s ∧ -8388608 ≤ s ∧ s ≤ 8388607 from phF_self (hdeps 3 (by kernel_rfl) (by kernel_rfl) _ rfl))
          obtain e2 := (show (a1.eval (.tmp 38)) = .int .i64 (t + 1) from phF_self (hdeps 6 (by kernel_rfl) (by kernel_rfl) _ rfl))
          have x1 := tmp_eval e1
          have x2 := tmp_eval e2
          have hmb := mod_bd (r := s) (t := t) (by omega)
          have g0 : ¬ t + 1 = 0 := by omega
          have g1 : (t + 1 == 0) = false := by simp; omega
          obtain ⟨q, hq⟩ : ∃ q, s.tmod (t + 1) = q := ⟨_, rfl⟩
          rw [hq] at hmb
          have u1 : IntKind.i64.wrap q = q := IntWalk.i64_in _ (by omega)
          have HMB := hid hmb
          have HI := hid (phA_self hI)
          have HK := hid hK
          clear e1 e2 hmb
          clear hdf hs hfar hdeps hI hno hup hK
          go_simp
          exact HK.out _ _ HI.out ⟨q, by first | rfl | (simp [*]; done), HMB.out⟩ (fun _ _ _ _ _ h => h)
        · unfold StepGPR; rw [if_pos (by kernel_rfl)]; intro a1 wx L hs hdf hfar hold hI hno hup hdeps K hK; have HOLD := hid hold; clear hold
          have hK := phK_plain (i := 8) (by kernel_rfl) hK
          have H9 := hid (hno 9 (by kernel_rfl)); have H10 := hid (hno 10 (by kernel_rfl))
          have hk : ([9] : List Nat).countP L = 0 := by simp [hno 9 (by kernel_rfl)]
          have hS : La W wx (some d) [(B, [.int .i64 t, .int .i64 r, .int .i64 65536], 23)] 2 1 va k (l2.map (Value.int .i64)) := phA_at hk hI
          obtain ⟨s, e1, s0, s1⟩ := (show ∃ s : Int, (a1.eval (.tmp 39)) = .int .i64 s ∧ -t ≤ s ∧ s ≤ t from phF_at hk (hdeps 7 (by kernel_rfl) (by kernel_rfl) _ rfl))
          have x1 := tmp_eval e1
          rw [hk] at hK
          have hb : Below wx.heap.size wx (wx.alloc (.cells #[.int .i64 s] 2)) := by go_grown
          have hB := NB.mk (lo := d) (Blk.alloc_new wx [.int .i64 s] 2) hS.lx.diceAt.lt
          have HI := hid (hS.kept hb)
          have HB := hid hB
          have HK := hid hK
          clear e1 hS hk hb hB
          clear hdf hs hfar hdeps hI hno hup hK
          go_simp
          refine HK.out _ _ HI.out ⟨_, s, rfl, HB.out, s0, s1⟩ ?_
          intro j oj hj hji hl hf
          revert hf
          match j with
          | 8 => exact absurd rfl hji
          | 9 => exact fun hf => absurd hl (by rw [H9.out]; decide)
          | 10 => exact fun hf => absurd hl (by rw [H10.out]; decide)
          | 0 => exact fun hf => hf
          | 1 => exact fun hf => hf
          | 2 => exact fun hf => hf
          | 3 => exact fun hf => hf
          | 4 => exact fun hf => hf
          | 5 => exact fun hf => hf
          | 6 => exact fun hf => hf
          | 7 => exact fun hf => hf
          | j + 11 => exact fun _ => trivial
        · unfold StepGPR; rw [if_pos (by kernel_rfl)]; intro a1 wx L hs hdf hfar hold hI hno hup hdeps K hK; have HOLD := hid hold; clear hold
          have hk : ([9] : List Nat).countP L = 0 := by simp [hno 9 (by kernel_rfl)]
          have hK := phK_write (i := 9) 0 hk (by rw [phN_count (by kernel_rfl) (hno 9 (by kernel_rfl)), hk]) hK
          have hS : La W wx (some d) [(B, [.int .i64 t, .int .i64 r, .int .i64 65536], 23)] 2 1 va k (l2.map (Value.int .i64)) := phA_at hk hI
          obtain e1 := (show (a1.eval (.tmp 32)) = va from phF_at hk (hdeps 0 (by kernel_rfl) (by kernel_rfl) _ rfl))
          obtain ⟨T, s, e2, hB, s0, s1⟩ := (show ∃ (T : Nat) (s : Int), (a1.eval (.tmp 40)) = .slice (some ⟨T, 0, none⟩) 1 1 ∧ NB wx d T [.int .i64 s] 2 ∧ -t ≤ s ∧ s ≤ t from phF_at hk (hdeps 8 (by kernel_rfl) (by kernel_rfl) _ rfl))
          obtain ⟨i0, i1, i2, i3, i4⟩ := info_parts (show (Try.prog.info? 2).map (fun i => (i.zero, i.size, i.bytes)) = some (some (.int .i64 0), 1, 8) by kernel_rfl)
          obtain ⟨va2, w2, hr, hla2⟩ := run_append_la (P := Try.prog) (t := 24) (ty := 24) Try.underlying24 i1 i2 (by rw [i3]; rfl) (by omega) (by rw [i3]; exact hS) ⟨T, 0, none⟩ 1 1 [.int .i64 s] (by rw [i3]; rfl) (by intro j u hj; match j, hj with | 0, hj => simp at hj; subst hj; exact hB.1.cell 0 rfl) (by intro u hu; simp at hu; subst hu; rfl) (by unfold maxLen; omega) (by rw [i4]; omega)
          rw [i3] at hla2
          have hla3 : La W w2 (some d) [(B, [.int .i64 t, .int .i64 r, .int .i64 65536], 23)] 2 1 va2 (k + 1) ((l2 ++ [s]).map (Value.int .i64)) := by rw [List.map_append]; exact hla2
          refine Lib.wp_append_run wx (.tmp 32) (.tmp 40) _ _ rfl _ _ e1 e2 _ _ hr (hK _ _ trivial ⟨s, hla3, s0, s1⟩ ?_)
          intro j oj hj hji hl hf
          have h10 := hno 10 (by kernel_rfl)
          match j with
          | 9 => exact absurd rfl hji
          | 10 => rw [h10] at hl; cases hl
          | 8 => exact trivial
          | 0 => exact hf
          | 1 => exact hf
          | 2 => exact hf
          | 3 => exact hf
          | 4 => exact hf
          | 5 => exact hf
          | 6 => exact hf
          | 7 => exact hf
          | j + 11 => exact trivial
        · unfold StepGPR; rw [if_pos (by kernel_rfl)]; intro a1 wx L hs hdf hfar hold hI hno hup hdeps K hK; have HOLD := hid hold; clear hold
          have hK := phK_plain (i := 10) (by kernel_rfl) hK
          exact wp_move (.tmp 41) (.inr rfl) _ rfl (hK _ _ (phA_self hI) (phF_self (hdeps 9 (by kernel_rfl) (by kernel_rfl) _ rfl)) (fun _ _ _ _ _ h => h))
      · intro vs wx L hvs hall hI hF
        obtain ⟨v0, r0, rfl, h0r⟩ := list_open hvs
        obtain ⟨v1, r1, rfl, h1r⟩ := list_open h0r
        obtain ⟨v2, r2, rfl, h2r⟩ := list_open h1r
        obtain ⟨v3, r3, rfl, h3r⟩ := list_open h2r
        obtain ⟨v4, r4, rfl, h4r⟩ := list_open h3r
        obtain ⟨v5, r5, rfl, h5r⟩ := list_open h4r
        obtain ⟨v6, r6, rfl, h6r⟩ := list_open h5r
        obtain ⟨v7, r7, rfl, h7r⟩ := list_open h6r
        obtain ⟨v8, r8, rfl, h8r⟩ := list_open h7r
        obtain ⟨v9, r9, rfl, h9r⟩ := list_open h8r
        obtain ⟨v10, r10, rfl, h10r⟩ := list_open h9r
        obtain rfl : r10 = [] := List.eq_nil_of_length_eq_zero h10r
        clear h0r h1r h2r h3r h4r h5r h6r h7r h8r h9r
        have hk : ([9] : List Nat).countP L = 1 := by simp [hall 9 (Nat.le_of_ble_eq_true rfl)]
        have f0 : v0 = va := phF_at hk (hF 0 (Nat.le_of_ble_eq_true rfl))
        have f1 : v1 = .pointer (some ⟨d, 0, none⟩) := phF_at hk (hF 1 (Nat.le_of_ble_eq_true rfl))
        have f2 : ∃ s : Int, v2 = .int .i32 s ∧ -8388608 ≤ s ∧ s ≤ 8388607 := phF_at hk (hF 2 (Nat.le_of_ble_eq_true rfl))
        have f3 : ∃ s : Int, v3 = .int .i64 s ∧ -8388608 ≤ s ∧ s ≤ 8388607 := phF_at hk (hF 3 (Nat.le_of_ble_eq_true rfl))
        have f4 : v4 = .pointer (some ⟨B, 0, none⟩) := phF_at hk (hF 4 (Nat.le_of_ble_eq_true rfl))
        have f5 : v5 = .int .i64 t := phF_at hk (hF 5 (Nat.le_of_ble_eq_true rfl))
        have f6 : v6 = .int .i64 (t + 1) := phF_at hk (hF 6 (Nat.le_of_ble_eq_true rfl))
        have f7 : ∃ s : Int, v7 = .int .i64 s ∧ -t ≤ s ∧ s ≤ t := phF_at hk (hF 7 (Nat.le_of_ble_eq_true rfl))
        have f9 : ∃ s : Int, La W wx (some d) [(B, [.int .i64 t, .int .i64 r, .int .i64 65536], 23)] 2 1 v9 (k + 1) ((l2 ++ [s]).map (Value.int .i64)) ∧ -t ≤ s ∧ s ≤ t := phF_at hk (hF 9 (Nat.le_of_ble_eq_true rfl))
        have f10 : ∃ s : Int, La W wx (some d) [(B, [.int .i64 t, .int .i64 r, .int .i64 65536], 23)] 2 1 v10 (k + 1) ((l2 ++ [s]).map (Value.int .i64)) ∧ -t ≤ s ∧ s ≤ t := phF_at hk (hF 10 (Nat.le_of_ble_eq_true rfl))
        have hS : True := phA_at hk hI
        clear hk hI hF hall
        subst f0
        subst f1
        subst f4
        subst f5
        subst f6
        simp only [putVals, List.setIfInBounds_toArray, List.set_cons_zero, List.set_cons_succ]
        obtain ⟨s, hla2, hs0, hs1⟩ := f10
        have K1 := hid hla2
        clear hla2 hS f2 f3 f7 f9 hla
        go_wp2_with fail
        go_roundw
        case rel => exact ⟨k + 1, l2 ++ [s], v10, by omega, by go_num, rfl, K1, hid (by rw [List.length_append, HLL.out]; rfl), hid (fun x hx => by
          rcases List.mem_append.1 hx with h | h
          · exact HLS.out x h
          · simp at h; omega)⟩
        case measure => simp [intOf] <;> omega
    · obtain rfl : k = 10 := by omega
      have hkb : decide (((10 : Nat) : Int) < 10) = false := by simp
      obtain ⟨a5, cap5, rfl, hsl, _⟩ := hla.out.sl (fun x hx => by
        have := HLS.out x hx
        have := HT.out
        have e : wrap64 x = x := by unfold wrap64; omega
        have h2 := wrap64_wf x
        rw [e] at h2
        exact h2)
      have HSL := hid hsl
      have H5 := hid hla.out.lx
      clear hsl hla
      have hL := H5.out.facts
      simp only [liveAt, cellsAt, and_true, Nat.zero_add, Nat.reduceAdd] at hL
      have cr := hid (lrun_w t r 65536 1 1 10 10 a5 cap5 l2 wr rfl rfl HT.out HR.out (by omega) (by omega) (by omega) HSL.out (fun s hs => by have := HLS.out s hs; have := HT.out; omega))
      rw [runL_quiet HT.out HR.out 10 l2 HLL.out HLS.out] at cr
      go_wp2_with fail
      (with_reducible refine cr.out.mono ?_); rintro e w8 ⟨G, rfl, hB, hGs, hb⟩
      clear hL cr
      have H8 := hid (((H5.out.keptNew hb hB hGs).alloc (vs := [.int .i64 1, .slice (some ⟨G, 0, none⟩) 10 10]) (T := 36)).alloc (vs := [.int .i64 t, .int .i64 r, .int .i64 65536]) (T := 23))
      have HS8 := hid (HSL.out.below ((hb.alloc hb.size (.cells #[.int .i64 1, .slice (some ⟨G, 0, none⟩) 10 10] 36)).alloc (by have := hb.size; simp; omega) (.cells #[.int .i64 t, .int .i64 r, .int .i64 65536] 23)))
      clear hb hB hGs H5 HSL
      simp only [World.size_alloc] at H8
      go_upto_region 12 with (fail)
      generalize (w8.alloc (.cells #[.int .i64 1, .slice (some ⟨G, 0, none⟩) 10 10] 36)).alloc (.cells #[.int .i64 t, .int .i64 r, .int .i64 65536] 23) = W8 at *
      generalize w8.heap.size + 1 = B9 at *
      generalize w8.heap.size = B8 at *
      have hL := H8.out.facts
      simp only [liveAt, cellsAt, and_true, Nat.zero_add, Nat.reduceAdd] at hL
      go_wp2_with fail
      clear hL
      go_loopw [67] (fun v wr => ∃ x : Nat, x ≤ 10 ∧ v = .int .i64 x ∧ W8 = wr) (fun v _ => 10 - (intOf v).toNat)
      case atStart => exact ⟨0, by omega, rfl, rfl⟩
      case round =>
        obtain ⟨x, hx, rfl, rfl⟩ := hrel
        by_cases hlt : x < 10
        · have hkb : decide ((x : Int) < 10) = true := by simp; omega
          have hkz : (x : Int) < 10 := by omega
          rcases HS8.out.2.2.2.2.2 with h6 | ⟨b5, off5, rfl, hbl, hcs⟩
          · omega
          have g0 := hcs x hlt
          have c0 : W8.cell? ⟨G, x, none⟩ = some (.int .i32 (l2.getD x 0)) := H8.out.cell 2 x rfl (by rw [List.getElem?_map, List.getElem?_eq_getElem (by rw [HLL.out]; omega), List.getD_eq_getElem?_getD, List.getElem?_eq_getElem (by rw [HLL.out]; omega)]; rfl)
          have hsb := HLS.out _ (getD_mem' (show x < l2.length by rw [HLL.out]; omega))
          have htb := HT.out
          have hL := H8.out.facts
          simp only [liveAt, cellsAt, and_true, Nat.zero_add, Nat.reduceAdd] at hL
          generalize l2.getD x 0 = s at *
          obtain ⟨s0, s1⟩ := hsb
          have c1 : W8.cell? ⟨G, 0 + x, none⟩ = some (.int .i32 s) := by rw [Nat.zero_add]; exact c0
          have u1 : IntKind.i64.wrap s = s := IntWalk.i64_in _ (by omega)
          clear hcs
          go_wp2_with fail
          go_roundw
          case rel => exact ⟨x + 1, by omega, by go_num, trivial⟩
          case measure => simp [intOf] <;> omega
        · have hkb : decide ((x : Int) < 10) = false := by simp; omega
          obtain rfl : x = 10 := by omega
          have hL := H8.out.facts
          simp only [liveAt, cellsAt, and_true, Nat.zero_add, Nat.reduceAdd] at hL
          have u2 : IntKind.i64.wrap lo = lo := IntWalk.i64_in _ (by omega)
          have c2 := hid (fun (w : World) h => lrun_w t r 65536 1 1 1 1 (some ⟨w.heap.size, 0, none⟩) 1 [lo] (w.alloc (.cells #[.int .i64 lo] 2)) rfl rfl HT.out HR.out (by omega) (by omega) (by omega) h (by intro s hs; simp at hs; omega))
          go_wp2_with fail
          have hsl := sl_lit (k := .i64) (w := W8) (e := 2) (fr := (0, 0)) [lo] (by
            intro x hx
            simp at hx
            subst hx
            have e : wrap64 x = x := by unfold wrap64; omega
            have h2 := wrap64_wf x
            rw [e] at h2
            exact h2) (by unfold maxLen; simp)
          (with_reducible refine (c2.out _ hsl).mono ?_); rintro e w9 ⟨G9, rfl, hB, hGs, hb⟩
          have hA : Below W8.heap.size W8 (W8.alloc (.cells #[.int .i64 lo] 2)) := by go_grown
          have hgb := runL_gain 1 HT.out HR.out 1 65536 [lo] (by omega) (by intro s hs; simp at hs; omega)
          generalize (runL 1 t r 1 65536 [lo]).2 = g9 at *
          generalize (runL 1 t r 1 65536 [lo]).1 = o9 at *
          have H9 := hid ((((H8.out.kept hA).keptNew hb hB hGs).alloc (vs := [.int .i64 1, .slice (some ⟨G9, 0, none⟩) 1 1]) (T := 36)).alloc (vs := [.int .i64 t, .int .i64 r, .int .i64 g9]) (T := 23))
          simp only [World.size_alloc] at H9
          clear hb hB hGs hsl hL c2 H8 HS8 hA
          go_upto_region 21 with (fail)
          generalize (w9.alloc (.cells #[.int .i64 1, .slice (some ⟨G9, 0, none⟩) 1 1] 36)).alloc (.cells #[.int .i64 t, .int .i64 r, .int .i64 g9] 23) = W9 at *
          generalize w9.heap.size + 1 = B11 at *
          generalize w9.heap.size = B10 at *
          have hL := H9.out.facts
          simp only [liveAt, cellsAt, and_true, Nat.zero_add, Nat.reduceAdd] at hL
          have hmk : ∀ w : World, (Instr.makeSlice 24 (.int .i64 20) (.int .i64 20)).run Try.prog w = .ok (.slice (some ⟨w.heap.size, 0, none⟩) 20 20) (w.alloc (.cells ((List.replicate 20 (0 : Int)).map (Value.int .i64)).toArray 2)) := by
            intro w
            have h := run_make_lc (P := Try.prog) (t := 24) (e := 2) (z := .int .i64 0) (bs := 8) Try.underlying24 (by kernel_rfl) (20 : Int) (20 : Int) 20 20 rfl rfl (Nat.le_refl _) (by omega) (by omega) w
            have e : madeCells (Value.int .i64 0).cells 20 = ((List.replicate 20 (0 : Int)).map (Value.int .i64)).toArray := by
              apply Array.ext'
              rw [List.map_replicate]
              exact toList_madeCells_one (Value.int .i64 0) 20
            rw [e] at h
            exact h
          have HQ := hid (runL_back HT.out HR.out 20 g9 ⟨hgb.1, hgb.2⟩)
          have c3 := hid (fun (w : World) h => lrun_w t r g9 1 1 20 20 (some ⟨w.heap.size, 0, none⟩) 20 (List.replicate 20 0) (w.alloc (.cells ((List.replicate 20 (0 : Int)).map (Value.int .i64)).toArray 2)) rfl rfl HT.out HR.out hgb (by omega) (by omega) h (by intro s hs; rw [List.eq_of_mem_replicate hs]; omega))
          rw [HQ.out] at c3
          have hsl := sl_lit (k := .i64) (w := W9) (e := 2) (fr := (0, 0)) (List.replicate 20 0) (by decide) (by unfold maxLen; simp)
          rw [List.length_replicate] at hsl
          have hA : Below W9.heap.size W9 (W9.alloc (.cells ((List.replicate 20 (0 : Int)).map (Value.int .i64)).toArray 2)) := by go_grown
          generalize ((List.replicate 20 (0 : Int)).map (Value.int .i64)).toArray = Z20 at *
          generalize (runL 1 t r 20 g9 (List.replicate 20 0)).1 = o10 at *
          go_upto_region 22 with (fail)
          clear hmk
          have H10 := hid (H9.out.kept hA)
          have c4 := c3.out W9 hsl
          clear c3 hsl H9 hL
          generalize W9.alloc (.cells Z20 2) = W10 at *
          generalize W9.heap.size = G10 at *
          have hL := H10.out.facts
          simp only [liveAt, cellsAt, and_true, Nat.zero_add, Nat.reduceAdd] at hL
          have C4 := hid c4
          clear c4
          go_wp2_with fail
          (with_reducible refine C4.out.mono ?_); rintro e w11 ⟨G11, rfl, hB, hGs, hb⟩
          obtain ⟨r0, r1⟩ := HR.out
          obtain ⟨gg0, gg1⟩ := hgb
          have hq : (65536 ≤ g9 + 20 * r ∧ min 65536 (g9 + ((20 : Nat) : Int) * r) = 65536) ∨ (g9 + 20 * r < 65536 ∧ min 65536 (g9 + ((20 : Nat) : Int) * r) = g9 + 20 * r) := by omega
          generalize min 65536 (g9 + ((20 : Nat) : Int) * r) = gq at *
          have H11 := hid (((H10.out.keptNew hb hB hGs).alloc (vs := [.int .i64 1, .slice (some ⟨G11, 0, none⟩) 20 20]) (T := 36)).alloc (vs := [.int .i64 t, .int .i64 r, .int .i64 gq]) (T := 23))
          clear hb hB hGs hL H10 C4 hA HQ
          have hL := H11.out.facts
          simp only [liveAt, cellsAt, and_true, Nat.zero_add, Nat.reduceAdd, World.size_alloc] at hL
          rcases hq with ⟨hq, rfl⟩ | ⟨hq, rfl⟩
          all_goals
            go_wp2_with fail
            go_ret
            have h9 := H11.out
            refine ⟨ret_bool (by rw [beq_iff_eq]; omega), h9.os, h9.tape, h9.output, h9.size, fun j hj => h9.block j hj (by simp; omega)⟩
end Go.Proofs.Ytbcifmddbhnkhaa
