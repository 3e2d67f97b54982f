/- Writing into rings. No statement is proved here. -/
import Derived.Test.YtlelnhapcfjhfaaRing2
import Derived.Laws.Cover1
import Derived.Great.Walk
namespace Go.Proofs.Ytlelnhapcfjhfaa
open Go.ChangeShapes Go.WideShapes Go.ChangeAt Go.RowKit
set_option linter.unusedVariables false
set_option linter.unusedSimpArgs false

theorem min_eq1 {cap f fb k : Nat} (hf : f ≤ cap) (hk : k = min fb (cap - f)) : (if (cap : Int) - (f : Int) < (fb : Int) then (cap : Int) - (f : Int) else (fb : Int)) = (k : Int) := by
  subst hk
  split <;> omega
theorem min_eq2 {cap f fb k : Nat} (hf : f ≤ cap) (hk : k = min fb (cap - f)) : min (fb : Int) ((cap : Int) - (f : Int)) = (k : Int) := by
  subst hk
  omega
def FW6A (W : World) (R4 B3 B2 C cap f n nb fb k c cb : Nat) (rd : Int) (a p : Option Addr) : Nat → World → Prop := fun _ w => Lx W w none [(R4, [.int .i64 0, .int .i64 0, .int .i64 0, .int .i64 0, .slice none 0 0], 24), (B3, [.int .i64 (C : Int), .slice p nb cb], 26), (B2, [.int .i64 (C : Int), .int .i64 (cap : Int), .int .i64 (rd + f), .int .i64 rd, .slice a n c], 24)]
def FW6 (W : World) (R4 B3 B2 C cap f n nb fb k c cb : Nat) (rd : Int) (a p : Option Addr) (ph : Nat) : Nat → Value → World → Prop
  | 0, v, w => v = .int .i64 (fb : Int)
  | 1, v, w => v = .pointer (some ⟨B2, 1, none⟩)
  | 2, v, w => v = .int .i64 (cap : Int)
  | 3, v, w => v = .agg #[.int .i64 (C : Int), .int .i64 (cap : Int), .int .i64 (rd + f), .int .i64 rd, .slice a n c]
  | 4, v, w => v = .int .i64 (f : Int)
  | 5, v, w => v = .int .i64 ((cap : Int) - (f : Int))
  | 6, v, w => v = .int .i64 (k : Int)
  | 7, v, w => v = .int .i64 (k : Int)
  | _, _, _ => True
theorem FW6_any {W : World} {R4 B3 B2 C cap f n nb fb k c cb : Nat} {rd : Int} {a p : Option Addr} {w w' : World}  : ∀ (ph_ j_ : Nat) (u_ : Value), FW6 W R4 B3 B2 C cap f n nb fb k c cb rd a p ph_ j_ u_ w → FW6 W R4 B3 B2 C cap f n nb fb k c cb rd a p ph_ j_ u_ w' := by
  intro ph_ j_ u_ hf
  rcases ph_ with ph_
  all_goals (unfold FW6 at *; split at hf)
  all_goals first
    | exact hf
def FW9A (W : World) (R4 B3 B2 C cap f n nb fb k c cb : Nat) (rd : Int) (a p : Option Addr) (l lb : List Int) : Nat → World → Prop
  | 0, w => Lx W w none [(R4, [.int .i64 0, .int .i64 0, .int .i64 0, .int .i64 0, .slice none 0 0], 24), (B3, [.int .i64 (C : Int), .slice p nb cb], 26), (B2, [.int .i64 (C : Int), .int .i64 (cap : Int), .int .i64 (rd + f), .int .i64 rd, .slice a n c], 24)]
  | _, w => ∃ G : Nat, Lx W w none ((G, ((l ++ lb.take (k * C)).map (Value.int .i32)), 21) :: [(R4, [.int .i64 0, .int .i64 0, .int .i64 0, .int .i64 0, .slice none 0 0], 24), (B3, [.int .i64 (C : Int), .slice p nb cb], 26), (B2, [.int .i64 (C : Int), .int .i64 (cap : Int), .int .i64 (rd + f), .int .i64 rd, .slice (some ⟨G, 0, none⟩) (n + k * C) (n + k * C)], 24)])
def FW9 (W : World) (R4 B3 B2 C cap f n nb fb k c cb : Nat) (rd : Int) (a p : Option Addr) (l lb : List Int) (ph : Nat) : Nat → Value → World → Prop
  | 0, v, w => v = .pointer (some ⟨B2, 4, none⟩)
  | 1, v, w => v = .slice a n c
  | 2, v, w => v = .pointer (some ⟨B3, 1, none⟩)
  | 3, v, w => v = .slice p nb cb
  | 4, v, w => v = .pointer (some ⟨B2, 0, none⟩)
  | 5, v, w => v = .int .i64 (C : Int)
  | 6, v, w => v = .int .i64 (k : Int)
  | 7, v, w => match ph with | 0 => ∃ (p9 : Option Addr) (q9 : Nat), v = .slice p9 (k * C) q9 ∧ Sl .i32 w p9 (k * C) q9 (lb.take (k * C)) | _ => True
  | 8, v, w => match ph with | 0 => ∃ G : Nat, v = .slice (some ⟨G, 0, none⟩) (n + k * C) (n + k * C) ∧ Blk w G ((l ++ lb.take (k * C)).map (Value.int .i32)) 21 ∧ R4 < G ∧ B3 < G ∧ B2 < G ∧ W.heap.size ≤ G | _ => True
  | 9, v, w => v = .pointer (some ⟨B2, 4, none⟩)
  | _, _, _ => True
theorem enter_fill : ∀ (ar : Array Value) (w : World), (callFunc 30 ar).run Try.prog w = .ok (.enter 30 ar) w := by
  intro ar w
  kernel_rfl
theorem enter_cut : ∀ (ar : Array Value) (w : World), (callFunc 32 ar).run Try.prog w = .ok (.enter 32 ar) w := by
  intro ar w
  kernel_rfl
theorem enter_joined : ∀ (ar : Array Value) (w : World), (callFunc 31 ar).run Try.prog w = .ok (.enter 31 ar) w := by
  intro ar w
  kernel_rfl
set_option maxRecDepth 100000 in
set_option maxHeartbeats 16000000 in
theorem rwrite_ok (C cap f n : Nat) (rd : Int) (a : Option Addr) (c : Nat) (l : List Int) (fb nb : Nat) (p : Option Addr) (cb : Nat) (lb : List Int) (k : Nat) (W : World) (hC : 1 ≤ C ∧ C ≤ 8) (hcap : 1 ≤ cap ∧ cap ≤ 65536) (hrd : 0 ≤ rd) (hf : f ≤ cap) (hwr : rd + f ≤ 1125899906842624) (hn : n = f * C) (hs : Sl .i32 W a n c l) (hl : Smp l) (hfb : fb ≤ 65536) (hnb : nb = fb * C) (hsb : Sl .i32 W p nb cb lb) (hlb : Smp lb) (hk : k = min fb (cap - f)) (hroom : rd + ((f + k : Nat) : Int) ≤ 1125899906842624) :
    Calls Try.prog 13 #[.agg #[.int .i64 (C : Int), .int .i64 (cap : Int), .int .i64 (rd + f), .int .i64 rd, .slice a n c], .agg #[.int .i64 (C : Int), .slice p nb cb]] W fun e w' => ∃ G : Nat, e = .returned (.tuple #[.agg #[.int .i64 (C : Int), .int .i64 (cap : Int), .int .i64 (rd + (f : Int) + (k : Int)), .int .i64 rd, .slice (some ⟨G, 0, none⟩) (n + k * C) (n + k * C)], .int .i64 ((fb : Int) - (k : Int)), .int .i64 0]) ∧ Blk w' G ((l ++ lb.take (k * C)).map (Value.int .i32)) 21 ∧ W.heap.size ≤ G ∧ Below W.heap.size W w' := by
  have cv := hid (fun (w' : World) (hb : Below W.heap.size W w') => rvalid_ok C cap f n rd a c l w' hC hcap hrd hf hwr hn (hs.below hb) hl)
  have cs := hid (fun (w' : World) (hb : Below W.heap.size W w') => svalid_ok C fb nb hC hfb hnb p cb lb w' (hsb.below hb) hlb)
  have cf := hid (fun (w' : World) => rfill_any C cap f rd (.slice a n c) rfl w' hrd (by omega) hwr)
  have hkf : k ≤ fb := by omega
  have hkc : k * C ≤ nb := by rw [hnb]; exact Nat.mul_le_mul_right _ hkf
  have hnb9 : nb ≤ 524288 := by rw [hnb]; exact Nat.le_trans (Nat.mul_le_mul hfb hC.2) (by omega)
  have hn9 : n ≤ 524288 := by rw [hn]; exact Nat.le_trans (Nat.mul_le_mul (show f ≤ 65536 by omega) hC.2) (by omega)
  have cc := hid (fun (w' : World) (hb : Below W.heap.size W w') => cut_any C 0 k nb hC.2 (Nat.zero_le _) hkc (by omega) p cb lb w' (hsb.below hb))
  simp only [Nat.zero_mul, Nat.sub_zero, List.drop_zero, Int.natCast_zero] at cc
  have cj := hid (fun (w' : World) (p2 : Option Addr) (q2 : Nat) (hb : Below W.heap.size W w') (h2 : Sl .i32 w' p2 (k * C) q2 (lb.take (k * C))) => joined_any a n c l p2 (k * C) q2 (lb.take (k * C)) w' (hs.below hb) h2 (by omega) (by omega))
  obtain ⟨c1, c8⟩ := hC
  obtain ⟨p1, p2⟩ := hcap
  have hqo : ((nb : Nat) : Int) / (C : Int) = fb := by rw [hnb, Int.natCast_mul, Int.mul_ediv_cancel _ (by omega)]
  have hqo2 : ((nb : Nat) : Int).tdiv (C : Int) = fb := by rw [Int.tdiv_eq_ediv_of_nonneg (by omega), hqo]
  have c0 : ((C : Int) == 0) = false := by simp; omega
  have c9 : ¬ (C : Int) = 0 := by omega
  have u1 : wrap64 (fb : Int) = fb := by unfold wrap64; omega
  have u3 : IntKind.i64.wrap ((cap : Int) - (f : Int)) = (cap : Int) - (f : Int) := IntWalk.i64_in _ (by omega)
  have hmin : (if (cap : Int) - (f : Int) < (fb : Int) then (cap : Int) - (f : Int) else (fb : Int)) = (k : Int) := min_eq1 hf hk
  have U3 := hid u3
  have HM := hid hmin
  have HM2 := hid (min_eq2 hf hk)
  have hL0 := Lx.alloc (vs := [.int .i64 0, .int .i64 0, .int .i64 0, .int .i64 0, .slice none 0 0]) (T := 24) (Lx.alloc (vs := [.int .i64 (C : Int), .slice p nb cb]) (T := 26) (Lx.alloc (vs := [.int .i64 (C : Int), .int .i64 (cap : Int), .int .i64 (rd + f), .int .i64 rd, .slice a n c]) (T := 24) (Lx.start W)))
  simp only [World.size_alloc] at hL0
  have HL0 := hid hL0
  have HRM := hid hroom
  have HKF := hid hkf
  clear hs hl hn hsb hlb hnb hL0 hk hkc u3 hmin hroom hkf hn9 hnb9
  go_enter Try.func13, Try.ntmps13
  go_wp2_with fail
  (with_reducible refine (cv.out _ HL0.out.below).mono ?_); rintro e w1 ⟨rfl, hb⟩; have HL1 := hid (HL0.out.kept hb); clear hb HL0 cv
  have hL := HL1.out.facts
  simp only [liveAt, cellsAt, and_true, Nat.zero_add, Nat.reduceAdd, World.size_alloc] at hL
  go_wp2_with fail
  (with_reducible refine (cs.out _ HL1.out.below).mono ?_); rintro e w2 ⟨rfl, hb⟩; have HL2 := hid (HL1.out.kept hb); clear hb HL1 cs hL
  obtain ⟨R4, hR4⟩ : ∃ R4, W.heap.size + 1 + 1 = R4 := ⟨_, rfl⟩
  obtain ⟨B3, hB3⟩ : ∃ B3, W.heap.size + 1 = B3 := ⟨_, rfl⟩
  obtain ⟨B2, hB2⟩ : ∃ B2, W.heap.size = B2 := ⟨_, rfl⟩
  simp only [hR4] at HL2 ⊢
  simp only [hB3] at HL2 ⊢
  simp only [hB2] at HL2 ⊢
  clear hR4 hB3 hB2
  have hL := HL2.out.facts
  simp only [liveAt, cellsAt, and_true, Nat.zero_add, Nat.reduceAdd, World.size_alloc] at hL
  go_upto_region 5 with (fail)
  go_upto_region 6 with (fail)
  clear hL hqo hqo2 u1 c0 c9
  have hI6 := HL2.out.drew
  have u3 := U3.out
  have hmin := HM.out
  have hmin2 : min (fb : Int) ((cap : Int) - (f : Int)) = (k : Int) := HM2.out
  refine wp_region_factsR (ops := [_, _, _, _, _, _, _, _]) (fun _ => none) (phA [] (FW6A W R4 B3 B2 C cap f n nb fb k c cb rd a p)) (phF [] (FW6 W R4 B3 B2 C cap f n nb fb k c cb rd a p)) (by kernel_rfl) (by kernel_rfl) (by kernel_rfl) (show (FW6A W R4 B3 B2 C cap f n nb fb k c cb rd a p) 0 _ from hI6) ?_ (by kernel_rfl) ?_ ?_
  · intro g b h; cases h
  · refine ⟨?_, ?_, ?_, ?_, ?_, ?_, ?_, ?_, trivial⟩
    · unfold StepGPR; rw [if_pos (by kernel_rfl)]; intro a1 wx L hs hdf hfar hold hI hno hup hdeps K hK; have HOLD := hid hold; clear hold
      have hK := phK_plain (i := 0) (by kernel_rfl) hK
      exact wp_move (.tmp 7) (.inl rfl) _ (far_eval (hfar 7 (by kernel_rfl)) rfl) (hK _ _ (phA_self hI) (by first | rfl | trivial) (fun _ _ _ _ _ h => h))
    · unfold StepGPR; rw [if_pos (by kernel_rfl)]; intro a1 wx L hs hdf hfar hold hI hno hup hdeps K hK; have HOLD := hid hold; clear hold
      have hK := phK_plain (i := 1) (by kernel_rfl) hK
      have ef2 : a1.eval (.tmp 2) = .pointer (some ⟨B2, 0, none⟩) := far_eval (hfar 2 (by kernel_rfl)) rfl
      have x1_ := tmp_eval ef2
      have HI := hid (phA_self hI)
      have HK := hid hK
      clear ef2
      clear hdf hs hfar hdeps hI hno hup hK
      go_simp
      exact HK.out _ _ HI.out (by first | rfl | (show _ = _; simp [*]; done)) (fun _ _ _ _ _ h => h)
    · unfold StepGPR; rw [if_pos (by kernel_rfl)]; intro a1 wx L hs hdf hfar hold hI hno hup hdeps K hK; have HOLD := hid hold; clear hold
      have hK := phK_plain (i := 2) (by kernel_rfl) hK
      have hS := (show Lx W wx none [(R4, [.int .i64 0, .int .i64 0, .int .i64 0, .int .i64 0, .slice none 0 0], 24), (B3, [.int .i64 (C : Int), .slice p nb cb], 26), (B2, [.int .i64 (C : Int), .int .i64 (cap : Int), .int .i64 (rd + f), .int .i64 rd, .slice a n c], 24)] from hI)
      obtain e1 := (show (a1.eval (.tmp 31)) = .pointer (some ⟨B2, 1, none⟩) from phF_self (hdeps 1 (by kernel_rfl) (by kernel_rfl) _ rfl))
      have x1_ := tmp_eval e1
      have c1_ := hS.cell 2 1 rfl rfl
      have HI := hid (phA_self hI)
      have HK := hid hK
      clear e1 hS
      clear hdf hs hfar hdeps hI hno hup hK
      go_simp
      exact HK.out _ _ HI.out (by first | rfl | (show _ = _; simp [*]; done)) (fun _ _ _ _ _ h => h)
    · unfold StepGPR; rw [if_pos (by kernel_rfl)]; intro a1 wx L hs hdf hfar hold hI hno hup hdeps K hK; have HOLD := hid hold; clear hold
      have hK := phK_plain (i := 3) (by kernel_rfl) hK
      have hS := (show Lx W wx none [(R4, [.int .i64 0, .int .i64 0, .int .i64 0, .int .i64 0, .slice none 0 0], 24), (B3, [.int .i64 (C : Int), .slice p nb cb], 26), (B2, [.int .i64 (C : Int), .int .i64 (cap : Int), .int .i64 (rd + f), .int .i64 rd, .slice a n c], 24)] from hI)
      have ef2 : a1.eval (.tmp 2) = .pointer (some ⟨B2, 0, none⟩) := far_eval (hfar 2 (by kernel_rfl)) rfl
      have x1_ := tmp_eval ef2
      have c0_ := hS.cell 2 0 rfl rfl
      have c1_ := hS.cell 2 1 rfl rfl
      have c2_ := hS.cell 2 2 rfl rfl
      have c3_ := hS.cell 2 3 rfl rfl
      have c4_ := hS.cell 2 4 rfl rfl
      have HI := hid (phA_self hI)
      have HK := hid hK
      clear ef2 hS
      clear hdf hs hfar hdeps hI hno hup hK
      go_simp
      exact HK.out _ _ HI.out (by first | rfl | (show _ = _; simp [*]; done)) (fun _ _ _ _ _ h => h)
    · unfold StepGPR; rw [if_pos (by kernel_rfl)]; intro a1 wx L hs hdf hfar hold hI hno hup hdeps K hK; have HOLD := hid hold; clear hold
      have hK := phK_plain (i := 4) (by kernel_rfl) hK
      have hS := (show Lx W wx none [(R4, [.int .i64 0, .int .i64 0, .int .i64 0, .int .i64 0, .slice none 0 0], 24), (B3, [.int .i64 (C : Int), .slice p nb cb], 26), (B2, [.int .i64 (C : Int), .int .i64 (cap : Int), .int .i64 (rd + f), .int .i64 rd, .slice a n c], 24)] from hI)
      obtain e1 := (show (a1.eval (.tmp 33)) = .agg #[.int .i64 (C : Int), .int .i64 (cap : Int), .int .i64 (rd + f), .int .i64 rd, .slice a n c] from phF_self (hdeps 3 (by kernel_rfl) (by kernel_rfl) _ rfl))
      refine wp_fn 30 [.tmp 33] _ rfl [.agg #[.int .i64 (C : Int), .int .i64 (cap : Int), .int .i64 (rd + f), .int .i64 rd, .slice a n c]] (by simp only [List.map_cons, List.map_nil, e1]) enter_fill (cf.out wx) ?_
      rintro e wy ⟨rfl, hb⟩
      exact ⟨_, rfl, hK _ _ (hS.kept hb) rfl (fun _ _ _ _ _ h => FW6_any (W := W) (R4 := R4) (B3 := B3) (B2 := B2) (C := C) (cap := cap) (f := f) (n := n) (nb := nb) (fb := fb) (k := k) (c := c) (cb := cb) (rd := rd) (a := a) (p := p) _ _ _ h)⟩
    · unfold StepGPR; rw [if_pos (by kernel_rfl)]; intro a1 wx L hs hdf hfar hold hI hno hup hdeps K hK; have HOLD := hid hold; clear hold
      have hK := phK_plain (i := 5) (by kernel_rfl) hK
      obtain e1 := (show (a1.eval (.tmp 32)) = .int .i64 (cap : Int) from phF_self (hdeps 2 (by kernel_rfl) (by kernel_rfl) _ rfl))
      obtain e2 := (show (a1.eval (.tmp 34)) = .int .i64 (f : Int) from phF_self (hdeps 4 (by kernel_rfl) (by kernel_rfl) _ rfl))
      have x1_ := tmp_eval e1
      have x2_ := tmp_eval e2
      have HI := hid (phA_self hI)
      have HK := hid hK
      clear e1 e2
      clear hdf hs hfar hdeps hI hno hup hK
      go_simp
      exact HK.out _ _ HI.out (by first | rfl | (show _ = _; simp [*]; done)) (fun _ _ _ _ _ h => h)
    · unfold StepGPR; rw [if_pos (by kernel_rfl)]; intro a1 wx L hs hdf hfar hold hI hno hup hdeps K hK; have HOLD := hid hold; clear hold
      have hK := phK_plain (i := 6) (by kernel_rfl) hK
      obtain e1 := (show (a1.eval (.tmp 30)) = .int .i64 (fb : Int) from phF_self (hdeps 0 (by kernel_rfl) (by kernel_rfl) _ rfl))
      obtain e2 := (show (a1.eval (.tmp 35)) = .int .i64 ((cap : Int) - (f : Int)) from phF_self (hdeps 5 (by kernel_rfl) (by kernel_rfl) _ rfl))
      have x1_ := tmp_eval e1
      have x2_ := tmp_eval e2
      have HI := hid (phA_self hI)
      have HK := hid hK
      clear e1 e2
      clear hdf hs hfar hdeps hI hno hup hK
      go_simp
      exact HK.out _ _ HI.out (by first | rfl | (show _ = _; simp [*]; done)) (fun _ _ _ _ _ h => h)
    · unfold StepGPR; rw [if_pos (by kernel_rfl)]; intro a1 wx L hs hdf hfar hold hI hno hup hdeps K hK; have HOLD := hid hold; clear hold
      have hK := phK_plain (i := 7) (by kernel_rfl) hK
      exact wp_move (.tmp 36) (.inr rfl) _ rfl (hK _ _ (phA_self hI) (phF_self (hdeps 6 (by kernel_rfl) (by kernel_rfl) _ rfl)) (fun _ _ _ _ _ h => h))
  · intro vs wx L hvs hall hI hF
    obtain ⟨v0, r0, rfl, h0r⟩ := list_open hvs
    obtain ⟨v1, r1, rfl, h1r⟩ := list_open h0r
    obtain ⟨v2, r2, rfl, h2r⟩ := list_open h1r
    obtain ⟨v3, r3, rfl, h3r⟩ := list_open h2r
    obtain ⟨v4, r4, rfl, h4r⟩ := list_open h3r
    obtain ⟨v5, r5, rfl, h5r⟩ := list_open h4r
    obtain ⟨v6, r6, rfl, h6r⟩ := list_open h5r
    obtain ⟨v7, r7, rfl, h7r⟩ := list_open h6r
    obtain rfl : r7 = [] := List.eq_nil_of_length_eq_zero h7r
    clear h0r h1r h2r h3r h4r h5r h6r
    have hk : ([] : List Nat).countP L = 0 := rfl
    have f0 : v0 = .int .i64 (fb : Int) := phF_at hk (hF 0 (Nat.le_of_ble_eq_true rfl))
    have f1 : v1 = .pointer (some ⟨B2, 1, none⟩) := phF_at hk (hF 1 (Nat.le_of_ble_eq_true rfl))
    have f2 : v2 = .int .i64 (cap : Int) := phF_at hk (hF 2 (Nat.le_of_ble_eq_true rfl))
    have f3 : v3 = .agg #[.int .i64 (C : Int), .int .i64 (cap : Int), .int .i64 (rd + f), .int .i64 rd, .slice a n c] := phF_at hk (hF 3 (Nat.le_of_ble_eq_true rfl))
    have f4 : v4 = .int .i64 (f : Int) := phF_at hk (hF 4 (Nat.le_of_ble_eq_true rfl))
    have f5 : v5 = .int .i64 ((cap : Int) - (f : Int)) := phF_at hk (hF 5 (Nat.le_of_ble_eq_true rfl))
    have f6 : v6 = .int .i64 (k : Int) := phF_at hk (hF 6 (Nat.le_of_ble_eq_true rfl))
    have f7 : v7 = .int .i64 (k : Int) := phF_at hk (hF 7 (Nat.le_of_ble_eq_true rfl))
    have hS : Lx W wx none [(R4, [.int .i64 0, .int .i64 0, .int .i64 0, .int .i64 0, .slice none 0 0], 24), (B3, [.int .i64 (C : Int), .slice p nb cb], 26), (B2, [.int .i64 (C : Int), .int .i64 (cap : Int), .int .i64 (rd + f), .int .i64 rd, .slice a n c], 24)] := phA_at hk hI
    clear hk hI hF hall
    subst f0
    subst f1
    subst f2
    subst f3
    subst f4
    subst f5
    subst f6
    subst f7
    simp only [putVals, List.setIfInBounds_toArray, List.set_cons_zero, List.set_cons_succ]
    have HL3 := hid hS
    clear hS hI6 HL2 u3 hmin hmin2
    have hL := HL3.out.facts
    simp only [liveAt, cellsAt, and_true, Nat.zero_add, Nat.reduceAdd, World.size_alloc] at hL
    have d6 : decide (1125899906842624 < rd + (f : Int) + (k : Int)) = false := decide_eq_false (by have := HRM.out; omega)
    have u5 : IntKind.i64.wrap (rd + (f : Int) + (k : Int)) = rd + (f : Int) + (k : Int) := IntWalk.i64_in _ (by have := HRM.out; omega)
    have d7 : rd + (f : Int) + (k : Int) ≤ 1125899906842624 := by have := HRM.out; omega
    go_upto_region 9 with (fail)
    clear hL
    have hI9 := HL3.out.drew
    have U5 := hid u5
    clear u5 d6
    refine wp_region_factsR (ops := [_, _, _, _, _, _, _, _, _, _, _]) (fun _ => none) (phA [10] (FW9A W R4 B3 B2 C cap f n nb fb k c cb rd a p l lb)) (phF [10] (FW9 W R4 B3 B2 C cap f n nb fb k c cb rd a p l lb)) (by kernel_rfl) (by kernel_rfl) (by kernel_rfl) (show (FW9A W R4 B3 B2 C cap f n nb fb k c cb rd a p l lb) 0 _ from hI9) ?_ (by kernel_rfl) ?_ ?_
    · intro g b h; cases h
    · refine ⟨?_, ?_, ?_, ?_, ?_, ?_, ?_, ?_, ?_, ?_, ?_, trivial⟩
      · unfold StepGPR; rw [if_pos (by kernel_rfl)]; intro a1 wx L hs hdf hfar hold hI hno hup hdeps K hK; have HOLD := hid hold; clear hold
        have hK := phK_plain (i := 0) (by kernel_rfl) hK
        have ef2 : a1.eval (.tmp 2) = .pointer (some ⟨B2, 0, none⟩) := far_eval (hfar 2 (by kernel_rfl)) rfl
        have x1_ := tmp_eval ef2
        have HI := hid (phA_self hI)
        have HK := hid hK
        clear ef2
        clear hdf hs hfar hdeps hI hno hup hK
        go_simp
        exact HK.out _ _ HI.out (by first | rfl | (show _ = _; simp [*]; done)) (fun _ _ _ _ _ h => h)
      · unfold StepGPR; rw [if_pos (by kernel_rfl)]; intro a1 wx L hs hdf hfar hold hI hno hup hdeps K hK; have HOLD := hid hold; clear hold
        have hK := phK_plain (i := 1) (by kernel_rfl) hK
        have hk : ([10] : List Nat).countP L = 0 := by simp [hno 10 (by kernel_rfl)]
        have hS := (show Lx W wx none [(R4, [.int .i64 0, .int .i64 0, .int .i64 0, .int .i64 0, .slice none 0 0], 24), (B3, [.int .i64 (C : Int), .slice p nb cb], 26), (B2, [.int .i64 (C : Int), .int .i64 (cap : Int), .int .i64 (rd + f), .int .i64 rd, .slice a n c], 24)] from phA_at hk hI)
        obtain e1 := (show (a1.eval (.tmp 43)) = .pointer (some ⟨B2, 4, none⟩) from phF_at hk (hdeps 0 (by kernel_rfl) (by kernel_rfl) _ rfl))
        have x1_ := tmp_eval e1
        have c1_ := hS.cell 2 4 rfl rfl
        rw [hk] at hK
        have HI := hid (phA_at hk hI)
        have HK := hid hK
        clear e1 hS hk
        clear hdf hs hfar hdeps hI hno hup hK
        go_simp
        exact HK.out _ _ HI.out (by first | rfl | (show _ = _; simp [*]; done)) (fun _ _ _ _ _ h => h)
      · unfold StepGPR; rw [if_pos (by kernel_rfl)]; intro a1 wx L hs hdf hfar hold hI hno hup hdeps K hK; have HOLD := hid hold; clear hold
        have hK := phK_plain (i := 2) (by kernel_rfl) hK
        have ef3 : a1.eval (.tmp 3) = .pointer (some ⟨B3, 0, none⟩) := far_eval (hfar 3 (by kernel_rfl)) rfl
        have x1_ := tmp_eval ef3
        have HI := hid (phA_self hI)
        have HK := hid hK
        clear ef3
        clear hdf hs hfar hdeps hI hno hup hK
        go_simp
        exact HK.out _ _ HI.out (by first | rfl | (show _ = _; simp [*]; done)) (fun _ _ _ _ _ h => h)
      · unfold StepGPR; rw [if_pos (by kernel_rfl)]; intro a1 wx L hs hdf hfar hold hI hno hup hdeps K hK; have HOLD := hid hold; clear hold
        have hK := phK_plain (i := 3) (by kernel_rfl) hK
        have hk : ([10] : List Nat).countP L = 0 := by simp [hno 10 (by kernel_rfl)]
        have hS := (show Lx W wx none [(R4, [.int .i64 0, .int .i64 0, .int .i64 0, .int .i64 0, .slice none 0 0], 24), (B3, [.int .i64 (C : Int), .slice p nb cb], 26), (B2, [.int .i64 (C : Int), .int .i64 (cap : Int), .int .i64 (rd + f), .int .i64 rd, .slice a n c], 24)] from phA_at hk hI)
        obtain e1 := (show (a1.eval (.tmp 45)) = .pointer (some ⟨B3, 1, none⟩) from phF_at hk (hdeps 2 (by kernel_rfl) (by kernel_rfl) _ rfl))
        have x1_ := tmp_eval e1
        have c1_ := hS.cell 1 1 rfl rfl
        rw [hk] at hK
        have HI := hid (phA_at hk hI)
        have HK := hid hK
        clear e1 hS hk
        clear hdf hs hfar hdeps hI hno hup hK
        go_simp
        exact HK.out _ _ HI.out (by first | rfl | (show _ = _; simp [*]; done)) (fun _ _ _ _ _ h => h)
      · unfold StepGPR; rw [if_pos (by kernel_rfl)]; intro a1 wx L hs hdf hfar hold hI hno hup hdeps K hK; have HOLD := hid hold; clear hold
        have hK := phK_plain (i := 4) (by kernel_rfl) hK
        have ef2 : a1.eval (.tmp 2) = .pointer (some ⟨B2, 0, none⟩) := far_eval (hfar 2 (by kernel_rfl)) rfl
        have x1_ := tmp_eval ef2
        have HI := hid (phA_self hI)
        have HK := hid hK
        clear ef2
        clear hdf hs hfar hdeps hI hno hup hK
        go_simp
        exact HK.out _ _ HI.out (by first | rfl | (show _ = _; simp [*]; done)) (fun _ _ _ _ _ h => h)
      · unfold StepGPR; rw [if_pos (by kernel_rfl)]; intro a1 wx L hs hdf hfar hold hI hno hup hdeps K hK; have HOLD := hid hold; clear hold
        have hK := phK_plain (i := 5) (by kernel_rfl) hK
        have hk : ([10] : List Nat).countP L = 0 := by simp [hno 10 (by kernel_rfl)]
        have hS := (show Lx W wx none [(R4, [.int .i64 0, .int .i64 0, .int .i64 0, .int .i64 0, .slice none 0 0], 24), (B3, [.int .i64 (C : Int), .slice p nb cb], 26), (B2, [.int .i64 (C : Int), .int .i64 (cap : Int), .int .i64 (rd + f), .int .i64 rd, .slice a n c], 24)] from phA_at hk hI)
        obtain e1 := (show (a1.eval (.tmp 47)) = .pointer (some ⟨B2, 0, none⟩) from phF_at hk (hdeps 4 (by kernel_rfl) (by kernel_rfl) _ rfl))
        have x1_ := tmp_eval e1
        have c1_ := hS.cell 2 0 rfl rfl
        rw [hk] at hK
        have HI := hid (phA_at hk hI)
        have HK := hid hK
        clear e1 hS hk
        clear hdf hs hfar hdeps hI hno hup hK
        go_simp
        exact HK.out _ _ HI.out (by first | rfl | (show _ = _; simp [*]; done)) (fun _ _ _ _ _ h => h)
      · unfold StepGPR; rw [if_pos (by kernel_rfl)]; intro a1 wx L hs hdf hfar hold hI hno hup hdeps K hK; have HOLD := hid hold; clear hold
        have hK := phK_plain (i := 6) (by kernel_rfl) hK
        exact wp_move (.tmp 8) (.inl rfl) _ (far_eval (hfar 8 (by kernel_rfl)) rfl) (hK _ _ (phA_self hI) (by first | rfl | trivial) (fun _ _ _ _ _ h => h))
      · unfold StepGPR; rw [if_pos (by kernel_rfl)]; intro a1 wx L hs hdf hfar hold hI hno hup hdeps K hK; have HOLD := hid hold; clear hold
        have hK := phK_plain (i := 7) (by kernel_rfl) hK
        have hk : ([10] : List Nat).countP L = 0 := by simp [hno 10 (by kernel_rfl)]
        have hS := (show Lx W wx none [(R4, [.int .i64 0, .int .i64 0, .int .i64 0, .int .i64 0, .slice none 0 0], 24), (B3, [.int .i64 (C : Int), .slice p nb cb], 26), (B2, [.int .i64 (C : Int), .int .i64 (cap : Int), .int .i64 (rd + f), .int .i64 rd, .slice a n c], 24)] from phA_at hk hI)
        obtain e1 := (show (a1.eval (.tmp 46)) = .slice p nb cb from phF_at hk (hdeps 3 (by kernel_rfl) (by kernel_rfl) _ rfl))
        obtain e2 := (show (a1.eval (.tmp 48)) = .int .i64 (C : Int) from phF_at hk (hdeps 5 (by kernel_rfl) (by kernel_rfl) _ rfl))
        obtain e3 := (show (a1.eval (.tmp 49)) = .int .i64 (k : Int) from phF_at hk (hdeps 6 (by kernel_rfl) (by kernel_rfl) _ rfl))
        rw [hk] at hK
        refine wp_fn 32 [.tmp 46, .tmp 48, .const (.int .i64 0), .tmp 49] _ rfl [.slice p nb cb, .int .i64 (C : Int), .int .i64 0, .int .i64 (k : Int)] (by simp only [List.map_cons, List.map_nil, e1, e2, e3]; rfl) enter_cut (cc.out wx hS.below) ?_
        rintro e wy ⟨⟨p9, q9, rfl, hs9, _⟩, rfl⟩
        exact ⟨_, rfl, hK _ _ hS ⟨p9, q9, rfl, hs9⟩ (fun _ _ _ _ _ h => h)⟩
      · unfold StepGPR; rw [if_pos (by kernel_rfl)]; intro a1 wx L hs hdf hfar hold hI hno hup hdeps K hK; have HOLD := hid hold; clear hold
        have hK := phK_plain (i := 8) (by kernel_rfl) hK
        have hk : ([10] : List Nat).countP L = 0 := by simp [hno 10 (by kernel_rfl)]
        have hS := (show Lx W wx none [(R4, [.int .i64 0, .int .i64 0, .int .i64 0, .int .i64 0, .slice none 0 0], 24), (B3, [.int .i64 (C : Int), .slice p nb cb], 26), (B2, [.int .i64 (C : Int), .int .i64 (cap : Int), .int .i64 (rd + f), .int .i64 rd, .slice a n c], 24)] from phA_at hk hI)
        obtain e1 := (show (a1.eval (.tmp 44)) = .slice a n c from phF_at hk (hdeps 1 (by kernel_rfl) (by kernel_rfl) _ rfl))
        obtain ⟨p9, q9, e2, hs9⟩ := (show ∃ (p9 : Option Addr) (q9 : Nat), (a1.eval (.tmp 50)) = .slice p9 (k * C) q9 ∧ Sl .i32 wx p9 (k * C) q9 (lb.take (k * C)) from phF_at hk (hdeps 7 (by kernel_rfl) (by kernel_rfl) _ rfl))
        rw [hk] at hK
        refine wp_fn 31 [.tmp 44, .tmp 50] _ rfl [.slice a n c, .slice p9 (k * C) q9] (by simp only [List.map_cons, List.map_nil, e1, e2]) enter_joined (cj.out wx p9 q9 hS.below hs9) ?_
        rintro e wy ⟨G, rfl, hB, hG, hb⟩
        have t4 := hS.lt 0 rfl
        have t3 := hS.lt 1 rfl
        have t2 := hS.lt 2 rfl
        have tw := hS.size
        refine ⟨_, rfl, hK _ _ (hS.kept hb) ⟨G, rfl, hB, by omega, by omega, by omega, by omega⟩ ?_⟩
        intro j oj hj hji hl hf
        match j with
        | 8 => exact absurd rfl hji
        | 7 => obtain ⟨p9, q9, e, h⟩ := hf; exact ⟨p9, q9, e, h.below hb⟩
        | 0 => exact hf
        | 1 => exact hf
        | 2 => exact hf
        | 3 => exact hf
        | 4 => exact hf
        | 5 => exact hf
        | 6 => exact hf
        | 9 => exact hf
        | 10 => exact trivial
        | j + 11 => exact trivial
      · unfold StepGPR; rw [if_pos (by kernel_rfl)]; intro a1 wx L hs hdf hfar hold hI hno hup hdeps K hK; have HOLD := hid hold; clear hold
        have hK := phK_plain (i := 9) (by kernel_rfl) hK
        have ef2 : a1.eval (.tmp 2) = .pointer (some ⟨B2, 0, none⟩) := far_eval (hfar 2 (by kernel_rfl)) rfl
        have x1_ := tmp_eval ef2
        have HI := hid (phA_self hI)
        have HK := hid hK
        clear ef2
        clear hdf hs hfar hdeps hI hno hup hK
        go_simp
        exact HK.out _ _ HI.out (by first | rfl | (show _ = _; simp [*]; done)) (fun _ _ _ _ _ h => h)
      · unfold StepGPR; rw [if_pos (by kernel_rfl)]; intro a1 wx L hs hdf hfar hold hI hno hup hdeps K hK; have HOLD := hid hold; clear hold
        have hk : ([10] : List Nat).countP L = 0 := by simp [hno 10 (by kernel_rfl)]
        have hK := phK_write (i := 10) 0 hk (by rw [phN_count (by kernel_rfl) (hno 10 (by kernel_rfl)), hk]) hK
        have hS := (show Lx W wx none [(R4, [.int .i64 0, .int .i64 0, .int .i64 0, .int .i64 0, .slice none 0 0], 24), (B3, [.int .i64 (C : Int), .slice p nb cb], 26), (B2, [.int .i64 (C : Int), .int .i64 (cap : Int), .int .i64 (rd + f), .int .i64 rd, .slice a n c], 24)] from phA_at hk hI)
        obtain e9 := (show (a1.eval (.tmp 52)) = .pointer (some ⟨B2, 4, none⟩) from phF_at hk (hdeps 9 (by kernel_rfl) (by kernel_rfl) _ rfl))
        obtain ⟨G, e8, hB, g4, g3, g2, gw⟩ := (show ∃ G : Nat, (a1.eval (.tmp 51)) = .slice (some ⟨G, 0, none⟩) (n + k * C) (n + k * C) ∧ Blk wx G ((l ++ lb.take (k * C)).map (Value.int .i32)) 21 ∧ R4 < G ∧ B3 < G ∧ B2 < G ∧ W.heap.size ≤ G from phF_at hk (hdeps 8 (by kernel_rfl) (by kernel_rfl) _ rfl))
        have hSG := hS.enter hB gw (fun d e => by cases e) (by intro x hx; simp at hx; rcases hx with rfl | rfl | rfl <;> simp <;> omega)
        have hS2 := hSG.set 3 4 (.slice (some ⟨G, 0, none⟩) (n + k * C) (n + k * C)) rfl
        simp only [List.set_cons_zero, List.set_cons_succ] at hS2
        have x1_ := tmp_eval e9
        have x2_ := tmp_eval e8
        have hL := hS.facts
        simp only [liveAt, cellsAt, and_true, Nat.zero_add, Nat.reduceAdd] at hL
        have HA := hid (show FW9A W R4 B3 B2 C cap f n nb fb k c cb rd a p l lb 1 (wx.setCell ⟨B2, 4, none⟩ (.slice (some ⟨G, 0, none⟩) (n + k * C) (n + k * C))) from ⟨G, hS2⟩)
        have HK := hid hK
        clear hdf hs hfar hdeps hI hno hup hK hS hSG hS2 hB e9 e8 hk
        go_simp
        refine HK.out undef _ HA.out trivial ?_
        intro j oj hj hji hl hf
        match j with
        | 10 => exact absurd rfl hji
        | 7 => exact trivial
        | 8 => exact trivial
        | 0 => exact hf
        | 1 => exact hf
        | 2 => exact hf
        | 3 => exact hf
        | 4 => exact hf
        | 5 => exact hf
        | 6 => exact hf
        | 9 => exact hf
        | j + 11 => exact trivial
    · intro vs wx L hvs hall hI hF
      obtain ⟨v0, r0, rfl, h0r⟩ := list_open hvs
      obtain ⟨v1, r1, rfl, h1r⟩ := list_open h0r
      obtain ⟨v2, r2, rfl, h2r⟩ := list_open h1r
      obtain ⟨v3, r3, rfl, h3r⟩ := list_open h2r
      obtain ⟨v4, r4, rfl, h4r⟩ := list_open h3r
      obtain ⟨v5, r5, rfl, h5r⟩ := list_open h4r
      obtain ⟨v6, r6, rfl, h6r⟩ := list_open h5r
      obtain ⟨v7, r7, rfl, h7r⟩ := list_open h6r
      obtain ⟨v8, r8, rfl, h8r⟩ := list_open h7r
      obtain ⟨v9, r9, rfl, h9r⟩ := list_open h8r
      obtain ⟨v10, r10, rfl, h10r⟩ := list_open h9r
      obtain rfl : r10 = [] := List.eq_nil_of_length_eq_zero h10r
      clear h0r h1r h2r h3r h4r h5r h6r h7r h8r h9r
      have hk : ([10] : List Nat).countP L = 1 := by simp [hall 10 (Nat.le_of_ble_eq_true rfl)]
      have f0 : v0 = .pointer (some ⟨B2, 4, none⟩) := phF_at hk (hF 0 (Nat.le_of_ble_eq_true rfl))
      have f1 : v1 = .slice a n c := phF_at hk (hF 1 (Nat.le_of_ble_eq_true rfl))
      have f2 : v2 = .pointer (some ⟨B3, 1, none⟩) := phF_at hk (hF 2 (Nat.le_of_ble_eq_true rfl))
      have f3 : v3 = .slice p nb cb := phF_at hk (hF 3 (Nat.le_of_ble_eq_true rfl))
      have f4 : v4 = .pointer (some ⟨B2, 0, none⟩) := phF_at hk (hF 4 (Nat.le_of_ble_eq_true rfl))
      have f5 : v5 = .int .i64 (C : Int) := phF_at hk (hF 5 (Nat.le_of_ble_eq_true rfl))
      have f6 : v6 = .int .i64 (k : Int) := phF_at hk (hF 6 (Nat.le_of_ble_eq_true rfl))
      have f9 : v9 = .pointer (some ⟨B2, 4, none⟩) := phF_at hk (hF 9 (Nat.le_of_ble_eq_true rfl))
      have hS : ∃ G : Nat, Lx W wx none ((G, ((l ++ lb.take (k * C)).map (Value.int .i32)), 21) :: [(R4, [.int .i64 0, .int .i64 0, .int .i64 0, .int .i64 0, .slice none 0 0], 24), (B3, [.int .i64 (C : Int), .slice p nb cb], 26), (B2, [.int .i64 (C : Int), .int .i64 (cap : Int), .int .i64 (rd + f), .int .i64 rd, .slice (some ⟨G, 0, none⟩) (n + k * C) (n + k * C)], 24)]) := phA_at hk hI
      clear hk hI hF hall
      subst f0
      subst f1
      subst f2
      subst f3
      subst f4
      subst f5
      subst f6
      subst f9
      simp only [putVals, List.setIfInBounds_toArray, List.set_cons_zero, List.set_cons_succ]
      obtain ⟨G, hS⟩ := hS
      have HL4 := hid hS
      clear hS hI9 HL3
      have hL := HL4.out.facts
      simp only [liveAt, cellsAt, and_true, Nat.zero_add, Nat.reduceAdd, World.size_alloc] at hL
      have u5 := U5.out
      have hf2 := (((((HL4.out.set 3 2 (.int .i64 (rd + (f : Int) + (k : Int))) rfl).set 1 0 (.int .i64 (C : Int)) rfl).set 1 1 (.int .i64 (cap : Int)) rfl).set 1 2 (.int .i64 (rd + (f : Int) + (k : Int))) rfl).set 1 3 (.int .i64 rd) rfl).set 1 4 (.slice (some ⟨G, 0, none⟩) (n + k * C) (n + k * C)) rfl
      have HF := hid hf2
      have k1 := HL4.out.ne 1 3 rfl rfl (by omega)
      have k2 := Ne.symm k1
      clear hf2 HL4
      go_wp2_with fail
      refine bodyPost_ret (by simp [results, Try.results13, go_sem, *]; try rfl) rfl ?_
      exact ⟨G, rfl, HF.out.blk 0 rfl, HF.out.ge 0 rfl, HF.out.below⟩
end Go.Proofs.Ytlelnhapcfjhfaa
