/- Reading out of rings. No statement is proved here. -/
import Derived.Test.YtlelnhapcfjhfaaRing3
namespace Go.Proofs.Ytlelnhapcfjhfaa
open Go.ChangeShapes Go.WideShapes Go.ChangeAt Go.RowKit
set_option linter.unusedVariables false
set_option linter.unusedSimpArgs false

def FR7A (W : World) (Bo O R6 R4 B2 C cap f n m k c q : Nat) (rd : Int) (a : Option Addr) (l : List Int) : Nat → World → Prop
  | 0, w => Lx W w none [(Bo, [.int .i64 (C : Int), .slice (some ⟨O, 0, none⟩) q q], 26), (O, ((List.replicate q (0 : Int)).map (Value.int .i32)), 21), (R6, [.int .i64 0, .int .i64 0, .int .i64 0, .int .i64 0, .slice none 0 0], 24), (R4, [.int .i64 0, .slice none 0 0], 26), (B2, [.int .i64 (C : Int), .int .i64 (cap : Int), .int .i64 (rd + f), .int .i64 rd, .slice a n c], 24)]
  | _, w => Lx W w none [(Bo, [.int .i64 (C : Int), .slice (some ⟨O, 0, none⟩) q q], 26), (O, ((l.take (k * C) ++ List.replicate (q - k * C) (0 : Int)).map (Value.int .i32)), 21), (R6, [.int .i64 0, .int .i64 0, .int .i64 0, .int .i64 0, .slice none 0 0], 24), (R4, [.int .i64 0, .slice none 0 0], 26), (B2, [.int .i64 (C : Int), .int .i64 (cap : Int), .int .i64 (rd + f), .int .i64 rd, .slice a n c], 24)]
def FR7 (W : World) (Bo O R6 R4 B2 C cap f n m k c q : Nat) (rd : Int) (a : Option Addr) (l : List Int) (ph : Nat) : Nat → Value → World → Prop
  | 0, v, w => v = .pointer (some ⟨Bo, 1, none⟩)
  | 1, v, w => v = .slice (some ⟨O, 0, none⟩) q q
  | 2, v, w => v = .pointer (some ⟨B2, 4, none⟩)
  | 3, v, w => v = .slice a n c
  | 4, v, w => v = .pointer (some ⟨B2, 0, none⟩)
  | 5, v, w => v = .int .i64 (C : Int)
  | 6, v, w => v = .int .i64 (k : Int)
  | 7, v, w => match ph with | 0 => ∃ (p9 : Option Addr) (q9 : Nat), v = .slice p9 (k * C) q9 ∧ Sl .i32 w p9 (k * C) q9 (l.take (k * C)) | _ => True
  | _, _, _ => True
def FR8A (W : World) (Bo O R6 R4 B2 C cap f n m k c q : Nat) (rd : Int) (a : Option Addr) (l : List Int) : Nat → World → Prop
  | 0, w => Lx W w none [(Bo, [.int .i64 (C : Int), .slice (some ⟨O, 0, none⟩) q q], 26), (O, ((l.take (k * C) ++ List.replicate (q - k * C) (0 : Int)).map (Value.int .i32)), 21), (R6, [.int .i64 0, .int .i64 0, .int .i64 0, .int .i64 0, .slice none 0 0], 24), (R4, [.int .i64 0, .slice none 0 0], 26), (B2, [.int .i64 (C : Int), .int .i64 (cap : Int), .int .i64 (rd + f), .int .i64 rd, .slice a n c], 24)]
  | _, w => ∃ G : Nat, Lx W w none ((G, ((l.drop (k * C)).map (Value.int .i32)), 21) :: [(Bo, [.int .i64 (C : Int), .slice (some ⟨O, 0, none⟩) q q], 26), (O, ((l.take (k * C) ++ List.replicate (q - k * C) (0 : Int)).map (Value.int .i32)), 21), (R6, [.int .i64 0, .int .i64 0, .int .i64 0, .int .i64 0, .slice none 0 0], 24), (R4, [.int .i64 0, .slice none 0 0], 26), (B2, [.int .i64 (C : Int), .int .i64 (cap : Int), .int .i64 (rd + f), .int .i64 rd, .slice (some ⟨G, 0, none⟩) (n - k * C) (n - k * C)], 24)])
def FR8 (W : World) (Bo O R6 R4 B2 C cap f n m k c q : Nat) (rd : Int) (a : Option Addr) (l : List Int) (ph : Nat) : Nat → Value → World → Prop
  | 0, v, w => v = .pointer (some ⟨B2, 4, none⟩)
  | 1, v, w => v = .slice a n c
  | 2, v, w => v = .pointer (some ⟨B2, 0, none⟩)
  | 3, v, w => v = .int .i64 (C : Int)
  | 4, v, w => v = .int .i64 (k : Int)
  | 5, v, w => v = .agg #[.int .i64 (C : Int), .int .i64 (cap : Int), .int .i64 (rd + f), .int .i64 rd, .slice a n c]
  | 6, v, w => v = .int .i64 (f : Int)
  | 7, v, w => match ph with | 0 => ∃ (p9 : Option Addr) (q9 : Nat), v = .slice p9 (n - k * C) q9 ∧ Sl .i32 w p9 (n - k * C) q9 (l.drop (k * C)) | _ => True
  | 8, v, w => match ph with | 0 => ∃ G : Nat, v = .slice (some ⟨G, 0, none⟩) (n - k * C) (n - k * C) ∧ Blk w G ((l.drop (k * C)).map (Value.int .i32)) 21 ∧ Bo < G ∧ O < G ∧ R6 < G ∧ R4 < G ∧ B2 < G ∧ W.heap.size ≤ G | _ => True
  | 9, v, w => v = .pointer (some ⟨B2, 4, none⟩)
  | _, _, _ => True
def FRXA (W : World) (G Bo O R6 R4 B2 C cap f n m k c q : Nat) (rd : Int) (a : Option Addr) (l : List Int) : Nat → World → Prop
  | 0, w => Lx W w none ((G, ((l.drop (k * C)).map (Value.int .i32)), 21) :: [(Bo, [.int .i64 (C : Int), .slice (some ⟨O, 0, none⟩) q q], 26), (O, ((l.take (k * C) ++ List.replicate (q - k * C) (0 : Int)).map (Value.int .i32)), 21), (R6, [.int .i64 0, .int .i64 0, .int .i64 0, .int .i64 0, .slice none 0 0], 24), (R4, [.int .i64 0, .slice none 0 0], 26), (B2, [.int .i64 (C : Int), .int .i64 (cap : Int), .int .i64 (rd + f), .int .i64 (rd + (k : Int)), .slice (some ⟨G, 0, none⟩) (n - k * C) (n - k * C)], 24)])
  | 1, w => Lx W w none ((G, ((l.drop (k * C)).map (Value.int .i32)), 21) :: [(Bo, [.int .i64 (C : Int), .slice (some ⟨O, 0, none⟩) q q], 26), (O, ((l.take (k * C) ++ List.replicate (q - k * C) (0 : Int)).map (Value.int .i32)), 21), (R6, [.int .i64 0, .int .i64 0, .int .i64 0, .int .i64 0, .slice none 0 0], 24), (R4, [.int .i64 (C : Int), .slice (some ⟨O, 0, none⟩) q q], 26), (B2, [.int .i64 (C : Int), .int .i64 (cap : Int), .int .i64 (rd + f), .int .i64 (rd + (k : Int)), .slice (some ⟨G, 0, none⟩) (n - k * C) (n - k * C)], 24)])
  | _, w => Lx W w none ((G, ((l.drop (k * C)).map (Value.int .i32)), 21) :: [(Bo, [.int .i64 (C : Int), .slice (some ⟨O, 0, none⟩) q q], 26), (O, ((l.take (k * C) ++ List.replicate (q - k * C) (0 : Int)).map (Value.int .i32)), 21), (R6, [.int .i64 (C : Int), .int .i64 (cap : Int), .int .i64 (rd + f), .int .i64 (rd + (k : Int)), .slice (some ⟨G, 0, none⟩) (n - k * C) (n - k * C)], 24), (R4, [.int .i64 (C : Int), .slice (some ⟨O, 0, none⟩) q q], 26), (B2, [.int .i64 (C : Int), .int .i64 (cap : Int), .int .i64 (rd + f), .int .i64 (rd + (k : Int)), .slice (some ⟨G, 0, none⟩) (n - k * C) (n - k * C)], 24)])
def FRX (W : World) (G Bo O R6 R4 B2 C cap f n m k c q : Nat) (rd : Int) (a : Option Addr) (l : List Int) (ph : Nat) : Nat → Value → World → Prop
  | 0, v, w => v = .agg #[.int .i64 (C : Int), .slice (some ⟨O, 0, none⟩) q q]
  | 1, v, w => v = .int .i64 (m : Int)
  | 2, v, w => v = .int .i64 (k : Int)
  | 3, v, w => v = .int .i64 ((m : Int) - (k : Int))
  | 4, v, w => v = .agg #[.int .i64 (C : Int), .int .i64 (cap : Int), .int .i64 (rd + f), .int .i64 (rd + (k : Int)), .slice (some ⟨G, 0, none⟩) (n - k * C) (n - k * C)]
  | 6, v, w => v = .int .i64 ((m : Int) - (k : Int))
  | 8, v, w => v = .int .i64 0
  | _, _, _ => True
theorem FRXA_c {W : World} {G Bo O R6 R4 B2 C cap f n m k c q : Nat} {rd : Int} {a : Option Addr} {l : List Int} {w : World} {ph : Nat} (h : FRXA W G Bo O R6 R4 B2 C cap f n m k c q rd a l ph w) : w.cell? ⟨B2, 0, none⟩ = some (.int .i64 (C : Int)) ∧ w.cell? ⟨B2, 1, none⟩ = some (.int .i64 (cap : Int)) ∧ w.cell? ⟨B2, 2, none⟩ = some (.int .i64 (rd + f)) ∧ w.cell? ⟨B2, 3, none⟩ = some (.int .i64 (rd + (k : Int))) ∧ w.cell? ⟨B2, 4, none⟩ = some (.slice (some ⟨G, 0, none⟩) (n - k * C) (n - k * C)) := by
  rcases ph with _ | _ | ph
  all_goals exact ⟨Lx.cell h 5 0 rfl rfl, Lx.cell h 5 1 rfl rfl, Lx.cell h 5 2 rfl rfl, Lx.cell h 5 3 rfl rfl, Lx.cell h 5 4 rfl rfl⟩
theorem wp_copy_run {P : Program} {op : Oper} {a : Act} {w : World} {K : Act → World → Prop} {Q : Exit → Act → World → Prop} (s x : Operand) (t1 t2 : TypeId) (ho : op.op = .call { callee := .builtin .copy, args := #[s, x], argTypes := #[t1, t2] }) (v1 v2 : Value) (hs : a.eval s = v1) (hx : a.eval x = v2) (r : Value) (w' : World) (hr : (Builtin.copy_ #[t1, t2] op.type #[v1, v2]).run P w = .ok r w') (hK : K (a.put op.dst r) w') : op.wp P a w K Q := by
  unfold Oper.wp execOp
  simp only [ho, resolve, invoke, builtin, Sem.run_bind, Sem.run_pure, Result.andThen_ok, List.map_toArray, List.map_cons, List.map_nil, hs, hx, hr]
  exact hK
theorem min_eq3 {m f k : Nat} (hk : k = min m f) : min (m : Int) (f : Int) = (k : Int) := by
  subst hk; omega
theorem min_eq4 {m f k : Nat} (hk : k = min m f) : (if (f : Int) < (m : Int) then (f : Int) else (m : Int)) = (k : Int) := by
  subst hk; split <;> omega
theorem read_facts {C f n m k q : Nat} (hC : C ≤ 8) (hf : f ≤ 65536) (hm : m ≤ 65536) (hn : n = f * C) (hq : q = C * m) (hk : k = min m f) : k ≤ f ∧ k ≤ m ∧ k * C ≤ n ∧ k * C ≤ q ∧ n ≤ 524288 ∧ q ≤ 524288 := by
  have h1 : k ≤ f := by omega
  have h2 : k ≤ m := by omega
  refine ⟨h1, h2, hn ▸ Nat.mul_le_mul_right _ h1, ?_, hn ▸ Nat.le_trans (Nat.mul_le_mul hf hC) (by omega), hq ▸ Nat.le_trans (Nat.mul_le_mul hC hm) (by omega)⟩
  rw [hq, Nat.mul_comm C m]
  exact Nat.mul_le_mul_right _ h2
set_option maxRecDepth 100000 in
set_option maxHeartbeats 16000000 in
theorem rread_ok (C cap f n : Nat) (rd : Int) (a : Option Addr) (c : Nat) (l : List Int) (m k q : Nat) (W : World) (hC : 1 ≤ C ∧ C ≤ 8) (hcap : 1 ≤ cap ∧ cap ≤ 65536) (hrd : 0 ≤ rd) (hf : f ≤ cap) (hwr : rd + f ≤ 1125899906842624) (hn : n = f * C) (hs : Sl .i32 W a n c l) (hl : Smp l) (hm : m ≤ 65536) (hk : k = min m f) (hq : q = C * m) :
    Calls Try.prog 16 #[.agg #[.int .i64 (C : Int), .int .i64 (cap : Int), .int .i64 (rd + f), .int .i64 rd, .slice a n c], .int .i64 (m : Int)] W fun e w' => ∃ O G : Nat, e = .returned (.tuple #[.agg #[.int .i64 (C : Int), .slice (some ⟨O, 0, none⟩) q q], .int .i64 ((m : Int) - (k : Int)), .agg #[.int .i64 (C : Int), .int .i64 (cap : Int), .int .i64 (rd + f), .int .i64 (rd + (k : Int)), .slice (some ⟨G, 0, none⟩) (n - k * C) (n - k * C)], .int .i64 0]) ∧ Blk w' O ((l.take (k * C) ++ List.replicate (q - k * C) (0 : Int)).map (Value.int .i32)) 21 ∧ Blk w' G ((l.drop (k * C)).map (Value.int .i32)) 21 ∧ W.heap.size ≤ O ∧ W.heap.size ≤ G ∧ O ≠ G ∧ Below W.heap.size W w' := by
  have cv := hid (fun (w' : World) (hb : Below W.heap.size W w') => rvalid_ok C cap f n rd a c l w' hC hcap hrd hf hwr hn (hs.below hb) hl)
  have cs := hid (fun (w' : World) => silence_ok C m hC hm w')
  rw [← hq] at cs
  have cf := hid (fun (w' : World) => rfill_any C cap f rd (.slice a n c) rfl w' hrd (by omega) hwr)
  obtain ⟨k1, k2, k3, k4, k5, k6⟩ := read_facts hC.2 (show f ≤ 65536 by omega) hm hn hq hk
  have cc := hid (fun (w' : World) (hb : Below W.heap.size W w') => cut_any C 0 k n hC.2 (Nat.zero_le _) k3 (by omega) a c l w' (hs.below hb))
  simp only [Nat.zero_mul, Nat.sub_zero, List.drop_zero, Int.natCast_zero] at cc
  have cd := hid (fun (w' : World) (hb : Below W.heap.size W w') => cut_any C k f n hC.2 k1 (by omega) (by omega) a c l w' (hs.below hb))
  rw [← hn] at cd
  have ht : (l.drop (k * C)).take (n - k * C) = l.drop (k * C) := List.take_of_length_le (by rw [List.length_drop, hs.1]; exact Nat.le_refl _)
  rw [ht] at cd
  have HM := hid (min_eq3 hk); have HM2 := hid (min_eq4 hk)
  have HKQ := hid k4
  have U7 := hid (show IntKind.i64.wrap ((m : Int) - (k : Int)) = (m : Int) - (k : Int) from IntWalk.i64_in _ (by omega))
  have hL0 := Lx.alloc (vs := [.int .i64 0, .int .i64 0, .int .i64 0, .int .i64 0, .slice none 0 0]) (T := 24) (Lx.alloc (vs := [.int .i64 0, .slice none 0 0]) (T := 26) (Lx.alloc (vs := [.int .i64 (C : Int), .int .i64 (cap : Int), .int .i64 (rd + f), .int .i64 rd, .slice a n c]) (T := 24) (Lx.start W)))
  simp only [World.size_alloc] at hL0
  have HL0 := hid hL0
  have hu5 : IntKind.i64.wrap (rd + (k : Int)) = rd + (k : Int) := IntWalk.i64_in _ (by omega)
  have U5 := hid hu5
  clear hs hl hn hL0 hk hq ht hu5 k3 k4
  go_enter Try.func16, Try.ntmps16
  go_wp2_with fail
  (with_reducible refine (cv.out _ HL0.out.below).mono ?_); rintro e w1 ⟨rfl, hb⟩; have HL1 := hid (HL0.out.kept hb); clear hb HL0 cv
  have hL := HL1.out.facts
  simp only [liveAt, cellsAt, and_true, Nat.zero_add, Nat.reduceAdd, World.size_alloc] at hL
  go_wp2_with fail
  (with_reducible refine (cs.out _).mono ?_); rintro e w2 ⟨O, rfl, hB, hG, hb⟩
  have hl2 := (HL1.out.keptNew hb hB hG).alloc (vs := [.int .i64 (C : Int), .slice (some ⟨O, 0, none⟩) q q]) (T := 26)
  have HL2 := hid hl2
  clear hb hB hG HL1 cs hL hl2
  obtain ⟨R6, hR6⟩ : ∃ R6, W.heap.size + 1 + 1 = R6 := ⟨_, rfl⟩
  obtain ⟨R4, hR4⟩ : ∃ R4, W.heap.size + 1 = R4 := ⟨_, rfl⟩
  obtain ⟨B2, hB2⟩ : ∃ B2, W.heap.size = B2 := ⟨_, rfl⟩
  simp only [hR6] at HL2 ⊢
  simp only [hR4] at HL2 ⊢
  simp only [hB2] at HL2 ⊢
  clear hR4 hR6 hB2
  go_upto_region 4 with (fail)
  generalize w2.alloc (.cells #[.int .i64 (C : Int), .slice (some ⟨O, 0, none⟩) q q] 26) = W2 at *
  generalize w2.heap.size = Bo at *
  have hL := HL2.out.facts
  simp only [liveAt, cellsAt, and_true, Nat.zero_add, Nat.reduceAdd, World.size_alloc] at hL
  go_upto_region 6 with (fail)
  have hmin := HM.out; have hmin2 := HM2.out
  go_wp2_with fail
  (with_reducible refine (cf.out _).mono ?_); rintro e w3 ⟨rfl, hb⟩; have HL3 := hid (HL2.out.kept hb); clear hb HL2 hL
  go_upto_region 7 with (fail)
  clear hmin hmin2
  have hI7 := HL3.out.drew
  refine wp_region_factsR (ops := [_, _, _, _, _, _, _, _, _]) (fun _ => none) (phA [8] (FR7A W Bo O R6 R4 B2 C cap f n m k c q rd a l)) (phF [8] (FR7 W Bo O R6 R4 B2 C cap f n m k c q rd a l)) (by kernel_rfl) (by kernel_rfl) (by kernel_rfl) (show (FR7A W Bo O R6 R4 B2 C cap f n m k c q rd a l) 0 _ from hI7) ?_ (by kernel_rfl) ?_ ?_
  · intro g b h; cases h
  · refine ⟨?_, ?_, ?_, ?_, ?_, ?_, ?_, ?_, ?_, trivial⟩
    · unfold StepGPR; rw [if_pos (by kernel_rfl)]; intro a1 wx L hs hdf hfar hold hI hno hup hdeps K hK; have HOLD := hid hold; clear hold
      have hK := phK_plain (i := 0) (by kernel_rfl) hK
      have ef8 : a1.eval (.tmp 8) = .pointer (some ⟨Bo, 0, none⟩) := far_eval (hfar 8 (by kernel_rfl)) rfl
      have x1_ := tmp_eval ef8
      have HI := hid (phA_self hI)
      have HK := hid hK
      clear ef8
      clear hdf hs hfar hdeps hI hno hup hK
      go_simp
      exact HK.out _ _ HI.out (by first | rfl | (show _ = _; simp [*]; done)) (fun _ _ _ _ _ h => h)
    · unfold StepGPR; rw [if_pos (by kernel_rfl)]; intro a1 wx L hs hdf hfar hold hI hno hup hdeps K hK; have HOLD := hid hold; clear hold
      have hK := phK_plain (i := 1) (by kernel_rfl) hK
      have hk : ([8] : List Nat).countP L = 0 := by simp [hno 8 (by kernel_rfl)]
      have hS := (show Lx W wx none [(Bo, [.int .i64 (C : Int), .slice (some ⟨O, 0, none⟩) q q], 26), (O, ((List.replicate q (0 : Int)).map (Value.int .i32)), 21), (R6, [.int .i64 0, .int .i64 0, .int .i64 0, .int .i64 0, .slice none 0 0], 24), (R4, [.int .i64 0, .slice none 0 0], 26), (B2, [.int .i64 (C : Int), .int .i64 (cap : Int), .int .i64 (rd + f), .int .i64 rd, .slice a n c], 24)] from phA_at hk hI)
      obtain e1 := (show (a1.eval (.tmp 31)) = .pointer (some ⟨Bo, 1, none⟩) from phF_at hk (hdeps 0 (by kernel_rfl) (by kernel_rfl) _ rfl))
      have x1_ := tmp_eval e1
      have c1_ := hS.cell 0 1 rfl rfl
      rw [hk] at hK
      have HI := hid (phA_at hk hI)
      have HK := hid hK
      clear e1 hS hk
      clear hdf hs hfar hdeps hI hno hup hK
      go_simp
      exact HK.out _ _ HI.out (by first | rfl | (show _ = _; simp [*]; done)) (fun _ _ _ _ _ h => h)
    · unfold StepGPR; rw [if_pos (by kernel_rfl)]; intro a1 wx L hs hdf hfar hold hI hno hup hdeps K hK; have HOLD := hid hold; clear hold
      have hK := phK_plain (i := 2) (by kernel_rfl) hK
      have ef2 : a1.eval (.tmp 2) = .pointer (some ⟨B2, 0, none⟩) := far_eval (hfar 2 (by kernel_rfl)) rfl
      have x1_ := tmp_eval ef2
      have HI := hid (phA_self hI)
      have HK := hid hK
      clear ef2
      clear hdf hs hfar hdeps hI hno hup hK
      go_simp
      exact HK.out _ _ HI.out (by first | rfl | (show _ = _; simp [*]; done)) (fun _ _ _ _ _ h => h)
    · unfold StepGPR; rw [if_pos (by kernel_rfl)]; intro a1 wx L hs hdf hfar hold hI hno hup hdeps K hK; have HOLD := hid hold; clear hold
      have hK := phK_plain (i := 3) (by kernel_rfl) hK
      have hk : ([8] : List Nat).countP L = 0 := by simp [hno 8 (by kernel_rfl)]
      have hS := (show Lx W wx none [(Bo, [.int .i64 (C : Int), .slice (some ⟨O, 0, none⟩) q q], 26), (O, ((List.replicate q (0 : Int)).map (Value.int .i32)), 21), (R6, [.int .i64 0, .int .i64 0, .int .i64 0, .int .i64 0, .slice none 0 0], 24), (R4, [.int .i64 0, .slice none 0 0], 26), (B2, [.int .i64 (C : Int), .int .i64 (cap : Int), .int .i64 (rd + f), .int .i64 rd, .slice a n c], 24)] from phA_at hk hI)
      obtain e1 := (show (a1.eval (.tmp 33)) = .pointer (some ⟨B2, 4, none⟩) from phF_at hk (hdeps 2 (by kernel_rfl) (by kernel_rfl) _ rfl))
      have x1_ := tmp_eval e1
      have c1_ := hS.cell 4 4 rfl rfl
      rw [hk] at hK
      have HI := hid (phA_at hk hI)
      have HK := hid hK
      clear e1 hS hk
      clear hdf hs hfar hdeps hI hno hup hK
      go_simp
      exact HK.out _ _ HI.out (by first | rfl | (show _ = _; simp [*]; done)) (fun _ _ _ _ _ h => h)
    · unfold StepGPR; rw [if_pos (by kernel_rfl)]; intro a1 wx L hs hdf hfar hold hI hno hup hdeps K hK; have HOLD := hid hold; clear hold
      have hK := phK_plain (i := 4) (by kernel_rfl) hK
      have ef2 : a1.eval (.tmp 2) = .pointer (some ⟨B2, 0, none⟩) := far_eval (hfar 2 (by kernel_rfl)) rfl
      have x1_ := tmp_eval ef2
      have HI := hid (phA_self hI)
      have HK := hid hK
      clear ef2
      clear hdf hs hfar hdeps hI hno hup hK
      go_simp
      exact HK.out _ _ HI.out (by first | rfl | (show _ = _; simp [*]; done)) (fun _ _ _ _ _ h => h)
    · unfold StepGPR; rw [if_pos (by kernel_rfl)]; intro a1 wx L hs hdf hfar hold hI hno hup hdeps K hK; have HOLD := hid hold; clear hold
      have hK := phK_plain (i := 5) (by kernel_rfl) hK
      have hk : ([8] : List Nat).countP L = 0 := by simp [hno 8 (by kernel_rfl)]
      have hS := (show Lx W wx none [(Bo, [.int .i64 (C : Int), .slice (some ⟨O, 0, none⟩) q q], 26), (O, ((List.replicate q (0 : Int)).map (Value.int .i32)), 21), (R6, [.int .i64 0, .int .i64 0, .int .i64 0, .int .i64 0, .slice none 0 0], 24), (R4, [.int .i64 0, .slice none 0 0], 26), (B2, [.int .i64 (C : Int), .int .i64 (cap : Int), .int .i64 (rd + f), .int .i64 rd, .slice a n c], 24)] from phA_at hk hI)
      obtain e1 := (show (a1.eval (.tmp 35)) = .pointer (some ⟨B2, 0, none⟩) from phF_at hk (hdeps 4 (by kernel_rfl) (by kernel_rfl) _ rfl))
      have x1_ := tmp_eval e1
      have c1_ := hS.cell 4 0 rfl rfl
      rw [hk] at hK
      have HI := hid (phA_at hk hI)
      have HK := hid hK
      clear e1 hS hk
      clear hdf hs hfar hdeps hI hno hup hK
      go_simp
      exact HK.out _ _ HI.out (by first | rfl | (show _ = _; simp [*]; done)) (fun _ _ _ _ _ h => h)
    · unfold StepGPR; rw [if_pos (by kernel_rfl)]; intro a1 wx L hs hdf hfar hold hI hno hup hdeps K hK; have HOLD := hid hold; clear hold
      have hK := phK_plain (i := 6) (by kernel_rfl) hK
      exact wp_move (.tmp 10) (.inl rfl) _ (far_eval (hfar 10 (by kernel_rfl)) rfl) (hK _ _ (phA_self hI) (by first | rfl | trivial) (fun _ _ _ _ _ h => h))
    · unfold StepGPR; rw [if_pos (by kernel_rfl)]; intro a1 wx L hs hdf hfar hold hI hno hup hdeps K hK; have HOLD := hid hold; clear hold
      have hK := phK_plain (i := 7) (by kernel_rfl) hK
      have hk : ([8] : List Nat).countP L = 0 := by simp [hno 8 (by kernel_rfl)]
      have hS := (show Lx W wx none [(Bo, [.int .i64 (C : Int), .slice (some ⟨O, 0, none⟩) q q], 26), (O, ((List.replicate q (0 : Int)).map (Value.int .i32)), 21), (R6, [.int .i64 0, .int .i64 0, .int .i64 0, .int .i64 0, .slice none 0 0], 24), (R4, [.int .i64 0, .slice none 0 0], 26), (B2, [.int .i64 (C : Int), .int .i64 (cap : Int), .int .i64 (rd + f), .int .i64 rd, .slice a n c], 24)] from phA_at hk hI)
      obtain e1 := (show (a1.eval (.tmp 34)) = .slice a n c from phF_at hk (hdeps 3 (by kernel_rfl) (by kernel_rfl) _ rfl))
      obtain e2 := (show (a1.eval (.tmp 36)) = .int .i64 (C : Int) from phF_at hk (hdeps 5 (by kernel_rfl) (by kernel_rfl) _ rfl))
      obtain e3 := (show (a1.eval (.tmp 37)) = .int .i64 (k : Int) from phF_at hk (hdeps 6 (by kernel_rfl) (by kernel_rfl) _ rfl))
      rw [hk] at hK
      refine wp_fn 32 [.tmp 34, .tmp 36, .const (.int .i64 0), .tmp 37] _ rfl [.slice a n c, .int .i64 (C : Int), .int .i64 0, .int .i64 (k : Int)] (by simp only [List.map_cons, List.map_nil, e1, e2, e3]; rfl) enter_cut (cc.out wx hS.below) ?_
      rintro e wy ⟨⟨p9, q9, rfl, hs9, _⟩, rfl⟩
      exact ⟨_, rfl, hK _ _ hS ⟨p9, q9, rfl, hs9⟩ (fun _ _ _ _ _ h => h)⟩
    · unfold StepGPR; rw [if_pos (by kernel_rfl)]; intro a1 wx L hs hdf hfar hold hI hno hup hdeps K hK; have HOLD := hid hold; clear hold
      have hk : ([8] : List Nat).countP L = 0 := by simp [hno 8 (by kernel_rfl)]
      have hK := phK_write (i := 8) 0 hk (by rw [phN_count (by kernel_rfl) (hno 8 (by kernel_rfl)), hk]) hK
      have hS := (show Lx W wx none [(Bo, [.int .i64 (C : Int), .slice (some ⟨O, 0, none⟩) q q], 26), (O, ((List.replicate q (0 : Int)).map (Value.int .i32)), 21), (R6, [.int .i64 0, .int .i64 0, .int .i64 0, .int .i64 0, .slice none 0 0], 24), (R4, [.int .i64 0, .slice none 0 0], 26), (B2, [.int .i64 (C : Int), .int .i64 (cap : Int), .int .i64 (rd + f), .int .i64 rd, .slice a n c], 24)] from phA_at hk hI)
      obtain e1 := (show (a1.eval (.tmp 32)) = .slice (some ⟨O, 0, none⟩) q q from phF_at hk (hdeps 1 (by kernel_rfl) (by kernel_rfl) _ rfl))
      obtain ⟨p9, q9, e2, hs9⟩ := (show ∃ (p9 : Option Addr) (q9 : Nat), (a1.eval (.tmp 38)) = .slice p9 (k * C) q9 ∧ Sl .i32 wx p9 (k * C) q9 (l.take (k * C)) from phF_at hk (hdeps 7 (by kernel_rfl) (by kernel_rfl) _ rfl))
      obtain ⟨w2, hr, hB, ho⟩ := copy_at (P := Try.prog) (dT := 22) (sT := 22) (ty := 3) (elem := 21) Try.underlying22 (by kernel_rfl) hs9 (hS.blk 1 rfl) (o := 0) (dLen := q) (dCap := q) (by simp; exact HKQ.out) HKQ.out
      have hS2 := hS.onlySet 1 rfl ho hB
      rw [List.take_zero, List.nil_append, Nat.zero_add, ← List.map_drop, List.drop_replicate, ← List.map_append] at hS2
      simp only [List.set_cons_zero, List.set_cons_succ] at hS2
      refine wp_copy_run (.tmp 32) (.tmp 38) _ _ rfl _ _ e1 e2 _ _ hr (hK _ _ hS2 trivial ?_)
      intro j oj hj hji hl hf
      match j with
      | 8 => exact absurd rfl hji
      | 7 => exact trivial
      | 0 => exact hf
      | 1 => exact hf
      | 2 => exact hf
      | 3 => exact hf
      | 4 => exact hf
      | 5 => exact hf
      | 6 => exact hf
      | j + 9 => exact trivial
  · intro vs wx L hvs hall hI hF
    obtain ⟨v0, r0, rfl, h0r⟩ := list_open hvs
    obtain ⟨v1, r1, rfl, h1r⟩ := list_open h0r
    obtain ⟨v2, r2, rfl, h2r⟩ := list_open h1r
    obtain ⟨v3, r3, rfl, h3r⟩ := list_open h2r
    obtain ⟨v4, r4, rfl, h4r⟩ := list_open h3r
    obtain ⟨v5, r5, rfl, h5r⟩ := list_open h4r
    obtain ⟨v6, r6, rfl, h6r⟩ := list_open h5r
    obtain ⟨v7, r7, rfl, h7r⟩ := list_open h6r
    obtain ⟨v8, r8, rfl, h8r⟩ := list_open h7r
    obtain rfl : r8 = [] := List.eq_nil_of_length_eq_zero h8r
    clear h0r h1r h2r h3r h4r h5r h6r h7r
    have hk : ([8] : List Nat).countP L = 1 := by simp [hall 8 (Nat.le_of_ble_eq_true rfl)]
    have f0 : v0 = .pointer (some ⟨Bo, 1, none⟩) := phF_at hk (hF 0 (Nat.le_of_ble_eq_true rfl))
    have f1 : v1 = .slice (some ⟨O, 0, none⟩) q q := phF_at hk (hF 1 (Nat.le_of_ble_eq_true rfl))
    have f2 : v2 = .pointer (some ⟨B2, 4, none⟩) := phF_at hk (hF 2 (Nat.le_of_ble_eq_true rfl))
    have f3 : v3 = .slice a n c := phF_at hk (hF 3 (Nat.le_of_ble_eq_true rfl))
    have f4 : v4 = .pointer (some ⟨B2, 0, none⟩) := phF_at hk (hF 4 (Nat.le_of_ble_eq_true rfl))
    have f5 : v5 = .int .i64 (C : Int) := phF_at hk (hF 5 (Nat.le_of_ble_eq_true rfl))
    have f6 : v6 = .int .i64 (k : Int) := phF_at hk (hF 6 (Nat.le_of_ble_eq_true rfl))
    have hS : Lx W wx none [(Bo, [.int .i64 (C : Int), .slice (some ⟨O, 0, none⟩) q q], 26), (O, ((l.take (k * C) ++ List.replicate (q - k * C) (0 : Int)).map (Value.int .i32)), 21), (R6, [.int .i64 0, .int .i64 0, .int .i64 0, .int .i64 0, .slice none 0 0], 24), (R4, [.int .i64 0, .slice none 0 0], 26), (B2, [.int .i64 (C : Int), .int .i64 (cap : Int), .int .i64 (rd + f), .int .i64 rd, .slice a n c], 24)] := phA_at hk hI
    clear hk hI hF hall
    subst f0
    subst f1
    subst f2
    subst f3
    subst f4
    subst f5
    subst f6
    simp only [putVals, List.setIfInBounds_toArray, List.set_cons_zero, List.set_cons_succ]
    have HL4 := hid hS
    clear hS hI7 HL3
    go_upto_region 8 with (fail)
    have hI8 := HL4.out.drew
    refine wp_region_factsR (ops := [_, _, _, _, _, _, _, _, _, _, _]) (fun _ => none) (phA [10] (FR8A W Bo O R6 R4 B2 C cap f n m k c q rd a l)) (phF [10] (FR8 W Bo O R6 R4 B2 C cap f n m k c q rd a l)) (by kernel_rfl) (by kernel_rfl) (by kernel_rfl) (show (FR8A W Bo O R6 R4 B2 C cap f n m k c q rd a l) 0 _ from hI8) ?_ (by kernel_rfl) ?_ ?_
    · intro g b h; cases h
    · refine ⟨?_, ?_, ?_, ?_, ?_, ?_, ?_, ?_, ?_, ?_, ?_, trivial⟩
      · unfold StepGPR; rw [if_pos (by kernel_rfl)]; intro a1 wx L hs hdf hfar hold hI hno hup hdeps K hK; have HOLD := hid hold; clear hold
        have hK := phK_plain (i := 0) (by kernel_rfl) hK
        have ef2 : a1.eval (.tmp 2) = .pointer (some ⟨B2, 0, none⟩) := far_eval (hfar 2 (by kernel_rfl)) rfl
        have x1_ := tmp_eval ef2
        have HI := hid (phA_self hI)
        have HK := hid hK
        clear ef2
        clear hdf hs hfar hdeps hI hno hup hK
        go_simp
        exact HK.out _ _ HI.out (by first | rfl | (show _ = _; simp [*]; done)) (fun _ _ _ _ _ h => h)
      · unfold StepGPR; rw [if_pos (by kernel_rfl)]; intro a1 wx L hs hdf hfar hold hI hno hup hdeps K hK; have HOLD := hid hold; clear hold
        have hK := phK_plain (i := 1) (by kernel_rfl) hK
        have hk : ([10] : List Nat).countP L = 0 := by simp [hno 10 (by kernel_rfl)]
        have hS := (show Lx W wx none [(Bo, [.int .i64 (C : Int), .slice (some ⟨O, 0, none⟩) q q], 26), (O, ((l.take (k * C) ++ List.replicate (q - k * C) (0 : Int)).map (Value.int .i32)), 21), (R6, [.int .i64 0, .int .i64 0, .int .i64 0, .int .i64 0, .slice none 0 0], 24), (R4, [.int .i64 0, .slice none 0 0], 26), (B2, [.int .i64 (C : Int), .int .i64 (cap : Int), .int .i64 (rd + f), .int .i64 rd, .slice a n c], 24)] from phA_at hk hI)
        obtain e1 := (show (a1.eval (.tmp 40)) = .pointer (some ⟨B2, 4, none⟩) from phF_at hk (hdeps 0 (by kernel_rfl) (by kernel_rfl) _ rfl))
        have x1_ := tmp_eval e1
        have c1_ := hS.cell 4 4 rfl rfl
        rw [hk] at hK
        have HI := hid (phA_at hk hI)
        have HK := hid hK
        clear e1 hS hk
        clear hdf hs hfar hdeps hI hno hup hK
        go_simp
        exact HK.out _ _ HI.out (by first | rfl | (show _ = _; simp [*]; done)) (fun _ _ _ _ _ h => h)
      · unfold StepGPR; rw [if_pos (by kernel_rfl)]; intro a1 wx L hs hdf hfar hold hI hno hup hdeps K hK; have HOLD := hid hold; clear hold
        have hK := phK_plain (i := 2) (by kernel_rfl) hK
        have ef2 : a1.eval (.tmp 2) = .pointer (some ⟨B2, 0, none⟩) := far_eval (hfar 2 (by kernel_rfl)) rfl
        have x1_ := tmp_eval ef2
        have HI := hid (phA_self hI)
        have HK := hid hK
        clear ef2
        clear hdf hs hfar hdeps hI hno hup hK
        go_simp
        exact HK.out _ _ HI.out (by first | rfl | (show _ = _; simp [*]; done)) (fun _ _ _ _ _ h => h)
      · unfold StepGPR; rw [if_pos (by kernel_rfl)]; intro a1 wx L hs hdf hfar hold hI hno hup hdeps K hK; have HOLD := hid hold; clear hold
        have hK := phK_plain (i := 3) (by kernel_rfl) hK
        have hk : ([10] : List Nat).countP L = 0 := by simp [hno 10 (by kernel_rfl)]
        have hS := (show Lx W wx none [(Bo, [.int .i64 (C : Int), .slice (some ⟨O, 0, none⟩) q q], 26), (O, ((l.take (k * C) ++ List.replicate (q - k * C) (0 : Int)).map (Value.int .i32)), 21), (R6, [.int .i64 0, .int .i64 0, .int .i64 0, .int .i64 0, .slice none 0 0], 24), (R4, [.int .i64 0, .slice none 0 0], 26), (B2, [.int .i64 (C : Int), .int .i64 (cap : Int), .int .i64 (rd + f), .int .i64 rd, .slice a n c], 24)] from phA_at hk hI)
        obtain e1 := (show (a1.eval (.tmp 42)) = .pointer (some ⟨B2, 0, none⟩) from phF_at hk (hdeps 2 (by kernel_rfl) (by kernel_rfl) _ rfl))
        have x1_ := tmp_eval e1
        have c1_ := hS.cell 4 0 rfl rfl
        rw [hk] at hK
        have HI := hid (phA_at hk hI)
        have HK := hid hK
        clear e1 hS hk
        clear hdf hs hfar hdeps hI hno hup hK
        go_simp
        exact HK.out _ _ HI.out (by first | rfl | (show _ = _; simp [*]; done)) (fun _ _ _ _ _ h => h)
      · unfold StepGPR; rw [if_pos (by kernel_rfl)]; intro a1 wx L hs hdf hfar hold hI hno hup hdeps K hK; have HOLD := hid hold; clear hold
        have hK := phK_plain (i := 4) (by kernel_rfl) hK
        exact wp_move (.tmp 10) (.inl rfl) _ (far_eval (hfar 10 (by kernel_rfl)) rfl) (hK _ _ (phA_self hI) (by first | rfl | trivial) (fun _ _ _ _ _ h => h))
      · unfold StepGPR; rw [if_pos (by kernel_rfl)]; intro a1 wx L hs hdf hfar hold hI hno hup hdeps K hK; have HOLD := hid hold; clear hold
        have hK := phK_plain (i := 5) (by kernel_rfl) hK
        have hk : ([10] : List Nat).countP L = 0 := by simp [hno 10 (by kernel_rfl)]
        have hS := (show Lx W wx none [(Bo, [.int .i64 (C : Int), .slice (some ⟨O, 0, none⟩) q q], 26), (O, ((l.take (k * C) ++ List.replicate (q - k * C) (0 : Int)).map (Value.int .i32)), 21), (R6, [.int .i64 0, .int .i64 0, .int .i64 0, .int .i64 0, .slice none 0 0], 24), (R4, [.int .i64 0, .slice none 0 0], 26), (B2, [.int .i64 (C : Int), .int .i64 (cap : Int), .int .i64 (rd + f), .int .i64 rd, .slice a n c], 24)] from phA_at hk hI)
        have ef2 : a1.eval (.tmp 2) = .pointer (some ⟨B2, 0, none⟩) := far_eval (hfar 2 (by kernel_rfl)) rfl
        have x1_ := tmp_eval ef2
        have c0_ := hS.cell 4 0 rfl rfl
        have c1_ := hS.cell 4 1 rfl rfl
        have c2_ := hS.cell 4 2 rfl rfl
        have c3_ := hS.cell 4 3 rfl rfl
        have c4_ := hS.cell 4 4 rfl rfl
        rw [hk] at hK
        have HI := hid (phA_at hk hI)
        have HK := hid hK
        clear ef2 hS hk
        clear hdf hs hfar hdeps hI hno hup hK
        go_simp
        exact HK.out _ _ HI.out (by first | rfl | (show _ = _; simp [*]; done)) (fun _ _ _ _ _ h => h)
      · unfold StepGPR; rw [if_pos (by kernel_rfl)]; intro a1 wx L hs hdf hfar hold hI hno hup hdeps K hK; have HOLD := hid hold; clear hold
        have hK := phK_plain (i := 6) (by kernel_rfl) hK
        have hk : ([10] : List Nat).countP L = 0 := by simp [hno 10 (by kernel_rfl)]
        have hS := (show Lx W wx none [(Bo, [.int .i64 (C : Int), .slice (some ⟨O, 0, none⟩) q q], 26), (O, ((l.take (k * C) ++ List.replicate (q - k * C) (0 : Int)).map (Value.int .i32)), 21), (R6, [.int .i64 0, .int .i64 0, .int .i64 0, .int .i64 0, .slice none 0 0], 24), (R4, [.int .i64 0, .slice none 0 0], 26), (B2, [.int .i64 (C : Int), .int .i64 (cap : Int), .int .i64 (rd + f), .int .i64 rd, .slice a n c], 24)] from phA_at hk hI)
        obtain e1 := (show (a1.eval (.tmp 45)) = .agg #[.int .i64 (C : Int), .int .i64 (cap : Int), .int .i64 (rd + f), .int .i64 rd, .slice a n c] from phF_at hk (hdeps 5 (by kernel_rfl) (by kernel_rfl) _ rfl))
        rw [hk] at hK
        refine wp_fn 30 [.tmp 45] _ rfl [.agg #[.int .i64 (C : Int), .int .i64 (cap : Int), .int .i64 (rd + f), .int .i64 rd, .slice a n c]] (by simp only [List.map_cons, List.map_nil, e1]) enter_fill (cf.out wx) ?_
        rintro e wy ⟨rfl, hb⟩
        refine ⟨_, rfl, hK _ _ (hS.kept hb) rfl ?_⟩
        have h7_ := hno 7 (by kernel_rfl)
        have h8_ := hno 8 (by kernel_rfl)
        intro j oj hj hji hl hf
        match j with
        | 7 => rw [h7_] at hl; cases hl
        | 8 => rw [h8_] at hl; cases hl
        | 0 => exact hf
        | 1 => exact hf
        | 2 => exact hf
        | 3 => exact hf
        | 4 => exact hf
        | 5 => exact hf
        | 6 => exact hf
        | 9 => exact hf
        | 10 => exact trivial
        | j + 11 => exact trivial
      · unfold StepGPR; rw [if_pos (by kernel_rfl)]; intro a1 wx L hs hdf hfar hold hI hno hup hdeps K hK; have HOLD := hid hold; clear hold
        have hK := phK_plain (i := 7) (by kernel_rfl) hK
        have hk : ([10] : List Nat).countP L = 0 := by simp [hno 10 (by kernel_rfl)]
        have hS := (show Lx W wx none [(Bo, [.int .i64 (C : Int), .slice (some ⟨O, 0, none⟩) q q], 26), (O, ((l.take (k * C) ++ List.replicate (q - k * C) (0 : Int)).map (Value.int .i32)), 21), (R6, [.int .i64 0, .int .i64 0, .int .i64 0, .int .i64 0, .slice none 0 0], 24), (R4, [.int .i64 0, .slice none 0 0], 26), (B2, [.int .i64 (C : Int), .int .i64 (cap : Int), .int .i64 (rd + f), .int .i64 rd, .slice a n c], 24)] from phA_at hk hI)
        obtain e1 := (show (a1.eval (.tmp 41)) = .slice a n c from phF_at hk (hdeps 1 (by kernel_rfl) (by kernel_rfl) _ rfl))
        obtain e2 := (show (a1.eval (.tmp 43)) = .int .i64 (C : Int) from phF_at hk (hdeps 3 (by kernel_rfl) (by kernel_rfl) _ rfl))
        obtain e3 := (show (a1.eval (.tmp 44)) = .int .i64 (k : Int) from phF_at hk (hdeps 4 (by kernel_rfl) (by kernel_rfl) _ rfl))
        obtain e4 := (show (a1.eval (.tmp 46)) = .int .i64 (f : Int) from phF_at hk (hdeps 6 (by kernel_rfl) (by kernel_rfl) _ rfl))
        rw [hk] at hK
        refine wp_fn 32 [.tmp 41, .tmp 43, .tmp 44, .tmp 46] _ rfl [.slice a n c, .int .i64 (C : Int), .int .i64 (k : Int), .int .i64 (f : Int)] (by simp only [List.map_cons, List.map_nil, e1, e2, e3, e4]) enter_cut (cd.out wx hS.below) ?_
        rintro e wy ⟨⟨p9, q9, rfl, hs9, _⟩, rfl⟩
        exact ⟨_, rfl, hK _ _ hS ⟨p9, q9, rfl, hs9⟩ (fun _ _ _ _ _ h => h)⟩
      · unfold StepGPR; rw [if_pos (by kernel_rfl)]; intro a1 wx L hs hdf hfar hold hI hno hup hdeps K hK; have HOLD := hid hold; clear hold
        have hK := phK_plain (i := 8) (by kernel_rfl) hK
        have hk : ([10] : List Nat).countP L = 0 := by simp [hno 10 (by kernel_rfl)]
        have hS := (show Lx W wx none [(Bo, [.int .i64 (C : Int), .slice (some ⟨O, 0, none⟩) q q], 26), (O, ((l.take (k * C) ++ List.replicate (q - k * C) (0 : Int)).map (Value.int .i32)), 21), (R6, [.int .i64 0, .int .i64 0, .int .i64 0, .int .i64 0, .slice none 0 0], 24), (R4, [.int .i64 0, .slice none 0 0], 26), (B2, [.int .i64 (C : Int), .int .i64 (cap : Int), .int .i64 (rd + f), .int .i64 rd, .slice a n c], 24)] from phA_at hk hI)
        obtain ⟨p9, q9, e2, hs9⟩ := (show ∃ (p9 : Option Addr) (q9 : Nat), (a1.eval (.tmp 47)) = .slice p9 (n - k * C) q9 ∧ Sl .i32 wx p9 (n - k * C) q9 (l.drop (k * C)) from phF_at hk (hdeps 7 (by kernel_rfl) (by kernel_rfl) _ rfl))
        rw [hk] at hK
        refine wp_fn 31 [.tmp 47, .const (.slice none 0 0)] _ rfl [.slice p9 (n - k * C) q9, .slice none 0 0] (by simp only [List.map_cons, List.map_nil, e2]; rfl) enter_joined (joined_any p9 (n - k * C) q9 (l.drop (k * C)) none 0 0 [] wx hs9 (sl_nil _ _) (by omega) (by omega)) ?_
        rintro e wy ⟨G, rfl, hB, hG, hb⟩
        rw [List.append_nil] at hB
        have t0 := hS.lt 0 rfl
        have t1 := hS.lt 1 rfl
        have t2 := hS.lt 2 rfl
        have t3 := hS.lt 3 rfl
        have t4 := hS.lt 4 rfl
        have tw := hS.size
        refine ⟨_, rfl, hK _ _ (hS.kept hb) ⟨G, rfl, hB, by omega, by omega, by omega, by omega, by omega, by omega⟩ ?_⟩
        intro j oj hj hji hl hf
        match j with
        | 8 => exact absurd rfl hji
        | 7 => obtain ⟨p9, q9, e, h⟩ := hf; exact ⟨p9, q9, e, h.below hb⟩
        | 0 => exact hf
        | 1 => exact hf
        | 2 => exact hf
        | 3 => exact hf
        | 4 => exact hf
        | 5 => exact hf
        | 6 => exact hf
        | 9 => exact hf
        | 10 => exact trivial
        | j + 11 => exact trivial
      · unfold StepGPR; rw [if_pos (by kernel_rfl)]; intro a1 wx L hs hdf hfar hold hI hno hup hdeps K hK; have HOLD := hid hold; clear hold
        have hK := phK_plain (i := 9) (by kernel_rfl) hK
        have ef2 : a1.eval (.tmp 2) = .pointer (some ⟨B2, 0, none⟩) := far_eval (hfar 2 (by kernel_rfl)) rfl
        have x1_ := tmp_eval ef2
        have HI := hid (phA_self hI)
        have HK := hid hK
        clear ef2
        clear hdf hs hfar hdeps hI hno hup hK
        go_simp
        exact HK.out _ _ HI.out (by first | rfl | (show _ = _; simp [*]; done)) (fun _ _ _ _ _ h => h)
      · unfold StepGPR; rw [if_pos (by kernel_rfl)]; intro a1 wx L hs hdf hfar hold hI hno hup hdeps K hK; have HOLD := hid hold; clear hold
        have hk : ([10] : List Nat).countP L = 0 := by simp [hno 10 (by kernel_rfl)]
        have hK := phK_write (i := 10) 0 hk (by rw [phN_count (by kernel_rfl) (hno 10 (by kernel_rfl)), hk]) hK
        have hS := (show Lx W wx none [(Bo, [.int .i64 (C : Int), .slice (some ⟨O, 0, none⟩) q q], 26), (O, ((l.take (k * C) ++ List.replicate (q - k * C) (0 : Int)).map (Value.int .i32)), 21), (R6, [.int .i64 0, .int .i64 0, .int .i64 0, .int .i64 0, .slice none 0 0], 24), (R4, [.int .i64 0, .slice none 0 0], 26), (B2, [.int .i64 (C : Int), .int .i64 (cap : Int), .int .i64 (rd + f), .int .i64 rd, .slice a n c], 24)] from phA_at hk hI)
        obtain e9 := (show (a1.eval (.tmp 49)) = .pointer (some ⟨B2, 4, none⟩) from phF_at hk (hdeps 9 (by kernel_rfl) (by kernel_rfl) _ rfl))
        obtain ⟨G, e8, hB, g5, g4, g3, g2, g1, gw⟩ := (show ∃ G : Nat, (a1.eval (.tmp 48)) = .slice (some ⟨G, 0, none⟩) (n - k * C) (n - k * C) ∧ Blk wx G ((l.drop (k * C)).map (Value.int .i32)) 21 ∧ Bo < G ∧ O < G ∧ R6 < G ∧ R4 < G ∧ B2 < G ∧ W.heap.size ≤ G from phF_at hk (hdeps 8 (by kernel_rfl) (by kernel_rfl) _ rfl))
        have hSG := hS.enter hB gw (fun d e => by cases e) (by intro x hx; simp at hx; rcases hx with rfl | rfl | rfl | rfl | rfl <;> simp <;> omega)
        have hS2 := hSG.set 5 4 (.slice (some ⟨G, 0, none⟩) (n - k * C) (n - k * C)) rfl
        simp only [List.set_cons_zero, List.set_cons_succ] at hS2
        have x1_ := tmp_eval e9
        have x2_ := tmp_eval e8
        have cz := hS.cell 4 4 rfl rfl
        have fz := (hS.blk 4 rfl).frozen 4
        have HA := hid (show FR8A W Bo O R6 R4 B2 C cap f n m k c q rd a l 1 (wx.setCell ⟨B2, 4, none⟩ (.slice (some ⟨G, 0, none⟩) (n - k * C) (n - k * C))) from ⟨G, hS2⟩)
        have HK := hid hK
        clear hdf hs hfar hdeps hI hno hup hK hS hSG hS2 hB e9 e8 hk
        go_simp
        refine HK.out undef _ HA.out trivial ?_
        intro j oj hj hji hl hf
        match j with
        | 10 => exact absurd rfl hji
        | 7 => exact trivial
        | 8 => exact trivial
        | 0 => exact hf
        | 1 => exact hf
        | 2 => exact hf
        | 3 => exact hf
        | 4 => exact hf
        | 5 => exact hf
        | 6 => exact hf
        | 9 => exact hf
        | j + 11 => exact trivial
    · intro vs wx L hvs hall hI hF
      obtain ⟨v0, r0, rfl, h0r⟩ := list_open hvs
      obtain ⟨v1, r1, rfl, h1r⟩ := list_open h0r
      obtain ⟨v2, r2, rfl, h2r⟩ := list_open h1r
      obtain ⟨v3, r3, rfl, h3r⟩ := list_open h2r
      obtain ⟨v4, r4, rfl, h4r⟩ := list_open h3r
      obtain ⟨v5, r5, rfl, h5r⟩ := list_open h4r
      obtain ⟨v6, r6, rfl, h6r⟩ := list_open h5r
      obtain ⟨v7, r7, rfl, h7r⟩ := list_open h6r
      obtain ⟨v8, r8, rfl, h8r⟩ := list_open h7r
      obtain ⟨v9, r9, rfl, h9r⟩ := list_open h8r
      obtain ⟨v10, r10, rfl, h10r⟩ := list_open h9r
      obtain rfl : r10 = [] := List.eq_nil_of_length_eq_zero h10r
      clear h0r h1r h2r h3r h4r h5r h6r h7r h8r h9r
      have hk : ([10] : List Nat).countP L = 1 := by simp [hall 10 (Nat.le_of_ble_eq_true rfl)]
      have f0 : v0 = .pointer (some ⟨B2, 4, none⟩) := phF_at hk (hF 0 (Nat.le_of_ble_eq_true rfl))
      have f1 : v1 = .slice a n c := phF_at hk (hF 1 (Nat.le_of_ble_eq_true rfl))
      have f2 : v2 = .pointer (some ⟨B2, 0, none⟩) := phF_at hk (hF 2 (Nat.le_of_ble_eq_true rfl))
      have f3 : v3 = .int .i64 (C : Int) := phF_at hk (hF 3 (Nat.le_of_ble_eq_true rfl))
      have f4 : v4 = .int .i64 (k : Int) := phF_at hk (hF 4 (Nat.le_of_ble_eq_true rfl))
      have f5 : v5 = .agg #[.int .i64 (C : Int), .int .i64 (cap : Int), .int .i64 (rd + f), .int .i64 rd, .slice a n c] := phF_at hk (hF 5 (Nat.le_of_ble_eq_true rfl))
      have f6 : v6 = .int .i64 (f : Int) := phF_at hk (hF 6 (Nat.le_of_ble_eq_true rfl))
      have f9 : v9 = .pointer (some ⟨B2, 4, none⟩) := phF_at hk (hF 9 (Nat.le_of_ble_eq_true rfl))
      have hS : ∃ G : Nat, Lx W wx none ((G, ((l.drop (k * C)).map (Value.int .i32)), 21) :: [(Bo, [.int .i64 (C : Int), .slice (some ⟨O, 0, none⟩) q q], 26), (O, ((l.take (k * C) ++ List.replicate (q - k * C) (0 : Int)).map (Value.int .i32)), 21), (R6, [.int .i64 0, .int .i64 0, .int .i64 0, .int .i64 0, .slice none 0 0], 24), (R4, [.int .i64 0, .slice none 0 0], 26), (B2, [.int .i64 (C : Int), .int .i64 (cap : Int), .int .i64 (rd + f), .int .i64 rd, .slice (some ⟨G, 0, none⟩) (n - k * C) (n - k * C)], 24)]) := phA_at hk hI
      clear hk hI hF hall
      subst f0
      subst f1
      subst f2
      subst f3
      subst f4
      subst f5
      subst f6
      subst f9
      simp only [putVals, List.setIfInBounds_toArray, List.set_cons_zero, List.set_cons_succ]
      obtain ⟨G, hS⟩ := hS
      have HL5 := hid hS
      clear hS hI8 HL4
      have hL := HL5.out.facts
      simp only [liveAt, cellsAt, and_true, Nat.zero_add, Nat.reduceAdd, World.size_alloc] at hL
      have hu5 := U5.out
      go_upto_region 10 with (fail)
      have hl6 := HL5.out.set 5 3 (.int .i64 (rd + (k : Int))) rfl
      simp only [List.set_cons_zero, List.set_cons_succ] at hl6
      clear hL hu5 HL5
      have hIX := hl6.drew
      have HL6 := hid hl6
      clear hl6
      refine wp_region_factsR (ops := [_, _, _, _, _, _, _, _, _]) (fun _ => none) (phA [5, 7] (FRXA W G Bo O R6 R4 B2 C cap f n m k c q rd a l)) (phF [5, 7] (FRX W G Bo O R6 R4 B2 C cap f n m k c q rd a l)) (by kernel_rfl) (by kernel_rfl) (by kernel_rfl) (show (FRXA W G Bo O R6 R4 B2 C cap f n m k c q rd a l) 0 _ from hIX) ?_ (by kernel_rfl) ?_ ?_
      · intro g b h; cases h
      · refine ⟨?_, ?_, ?_, ?_, ?_, ?_, ?_, ?_, ?_, trivial⟩
        · unfold StepGPR; rw [if_pos (by kernel_rfl)]; intro a1 wx L hs hdf hfar hold hI hno hup hdeps K hK; have HOLD := hid hold; clear hold
          have hK := phK_plain (i := 0) (by kernel_rfl) hK
          have hk : ([5, 7] : List Nat).countP L = 0 := by simp [hno 5 (by kernel_rfl), hno 7 (by kernel_rfl)]
          have hS := (show Lx W wx none ((G, ((l.drop (k * C)).map (Value.int .i32)), 21) :: [(Bo, [.int .i64 (C : Int), .slice (some ⟨O, 0, none⟩) q q], 26), (O, ((l.take (k * C) ++ List.replicate (q - k * C) (0 : Int)).map (Value.int .i32)), 21), (R6, [.int .i64 0, .int .i64 0, .int .i64 0, .int .i64 0, .slice none 0 0], 24), (R4, [.int .i64 0, .slice none 0 0], 26), (B2, [.int .i64 (C : Int), .int .i64 (cap : Int), .int .i64 (rd + f), .int .i64 (rd + (k : Int)), .slice (some ⟨G, 0, none⟩) (n - k * C) (n - k * C)], 24)]) from phA_at hk hI)
          have ef8 : a1.eval (.tmp 8) = .pointer (some ⟨Bo, 0, none⟩) := far_eval (hfar 8 (by kernel_rfl)) rfl
          have x1_ := tmp_eval ef8
          have c0_ := hS.cell 1 0 rfl rfl
          have c1_ := hS.cell 1 1 rfl rfl
          rw [hk] at hK
          have HI := hid (phA_at hk hI)
          have HK := hid hK
          clear ef8 hS hk
          clear hdf hs hfar hdeps hI hno hup hK
          go_simp
          exact HK.out _ _ HI.out (by first | rfl | (show _ = _; simp [*]; done)) (fun _ _ _ _ _ h => h)
        · unfold StepGPR; rw [if_pos (by kernel_rfl)]; intro a1 wx L hs hdf hfar hold hI hno hup hdeps K hK; have HOLD := hid hold; clear hold
          have hK := phK_plain (i := 1) (by kernel_rfl) hK
          exact wp_move (.tmp 1) (.inl rfl) _ (far_eval (hfar 1 (by kernel_rfl)) rfl) (hK _ _ (phA_self hI) (by first | rfl | trivial) (fun _ _ _ _ _ h => h))
        · unfold StepGPR; rw [if_pos (by kernel_rfl)]; intro a1 wx L hs hdf hfar hold hI hno hup hdeps K hK; have HOLD := hid hold; clear hold
          have hK := phK_plain (i := 2) (by kernel_rfl) hK
          exact wp_move (.tmp 10) (.inl rfl) _ (far_eval (hfar 10 (by kernel_rfl)) rfl) (hK _ _ (phA_self hI) (by first | rfl | trivial) (fun _ _ _ _ _ h => h))
        · unfold StepGPR; rw [if_pos (by kernel_rfl)]; intro a1 wx L hs hdf hfar hold hI hno hup hdeps K hK; have HOLD := hid hold; clear hold
          have hK := phK_plain (i := 3) (by kernel_rfl) hK
          obtain e1 := (show (a1.eval (.tmp 56)) = .int .i64 (m : Int) from phF_self (hdeps 1 (by kernel_rfl) (by kernel_rfl) _ rfl))
          obtain e2 := (show (a1.eval (.tmp 57)) = .int .i64 (k : Int) from phF_self (hdeps 2 (by kernel_rfl) (by kernel_rfl) _ rfl))
          have u7 : IntKind.i64.wrap ((m : Int) - (k : Int)) = (m : Int) - (k : Int) := U7.out
          have x1_ := tmp_eval e1
          have x2_ := tmp_eval e2
          have HI := hid (phA_self hI)
          have HK := hid hK
          clear e1 e2
          clear hdf hs hfar hdeps hI hno hup hK
          go_simp
          exact HK.out _ _ HI.out (by first | rfl | (show _ = _; simp [*]; done)) (fun _ _ _ _ _ h => h)
        · unfold StepGPR; rw [if_pos (by kernel_rfl)]; intro a1 wx L hs hdf hfar hold hI hno hup hdeps K hK; have HOLD := hid hold; clear hold
          have hK := phK_plain (i := 4) (by kernel_rfl) hK
          obtain ⟨c0_, c1_, c2_, c3_, c4_⟩ := FRXA_c (phA_self hI)
          have ef2 : a1.eval (.tmp 2) = .pointer (some ⟨B2, 0, none⟩) := far_eval (hfar 2 (by kernel_rfl)) rfl
          have x1_ := tmp_eval ef2
          have HI := hid (phA_self hI)
          have HK := hid hK
          clear ef2
          clear hdf hs hfar hdeps hI hno hup hK
          go_simp
          exact HK.out _ _ HI.out (by first | rfl | (show _ = _; simp [*]; done)) (fun _ _ _ _ _ h => h)
        · unfold StepGPR; rw [if_pos (by kernel_rfl)]; intro a1 wx L hs hdf hfar hold hI hno hup hdeps K hK; have HOLD := hid hold; clear hold
          have hk : ([5, 7] : List Nat).countP L = 0 := by simp [hno 5 (by kernel_rfl), hno 7 (by kernel_rfl)]
          have hK := phK_write (i := 5) 0 hk (by rw [phN_count (by kernel_rfl) (hno 5 (by kernel_rfl)), hk]) hK
          have hS := (show Lx W wx none ((G, ((l.drop (k * C)).map (Value.int .i32)), 21) :: [(Bo, [.int .i64 (C : Int), .slice (some ⟨O, 0, none⟩) q q], 26), (O, ((l.take (k * C) ++ List.replicate (q - k * C) (0 : Int)).map (Value.int .i32)), 21), (R6, [.int .i64 0, .int .i64 0, .int .i64 0, .int .i64 0, .slice none 0 0], 24), (R4, [.int .i64 0, .slice none 0 0], 26), (B2, [.int .i64 (C : Int), .int .i64 (cap : Int), .int .i64 (rd + f), .int .i64 (rd + (k : Int)), .slice (some ⟨G, 0, none⟩) (n - k * C) (n - k * C)], 24)]) from phA_at hk hI)
          obtain e2 := (show (a1.eval (.tmp 55)) = .agg #[.int .i64 (C : Int), .slice (some ⟨O, 0, none⟩) q q] from phF_at hk (hdeps 0 (by kernel_rfl) (by kernel_rfl) _ rfl))
          have e4 : a1.eval (.tmp 4) = .pointer (some ⟨R4, 0, none⟩) := far_eval (hfar 4 (by kernel_rfl)) rfl
          refine wp_store_blk _ _ _ rfl R4 e4 [.int .i64 (C : Int), .slice (some ⟨O, 0, none⟩) q q] e2 _ _ (hS.blk 4 rfl) rfl (by kernel_rfl) (by intro v hv; simp at hv; rcases hv with rfl | rfl <;> rfl) ?_
          intro w' hb' ho
          have hl4 := hS.onlySet 4 rfl ho hb'
          simp only [List.set_cons_zero, List.set_cons_succ] at hl4
          refine hK undef w' hl4 trivial ?_
          intro j oj hj hji hl hf
          match j with
          | 5 => exact absurd rfl hji
          | 7 => exact trivial
          | 0 => exact hf
          | 1 => exact hf
          | 2 => exact hf
          | 3 => exact hf
          | 4 => exact hf
          | 6 => exact hf
          | 8 => exact hf
          | j + 9 => exact trivial
        · unfold StepGPR; rw [if_pos (by kernel_rfl)]; intro a1 wx L hs hdf hfar hold hI hno hup hdeps K hK; have HOLD := hid hold; clear hold
          have hK := phK_plain (i := 6) (by kernel_rfl) hK
          exact wp_move (.tmp 58) (.inr rfl) _ rfl (hK _ _ (phA_self hI) (phF_self (hdeps 3 (by kernel_rfl) (by kernel_rfl) _ rfl)) (fun _ _ _ _ _ h => h))
        · unfold StepGPR; rw [if_pos (by kernel_rfl)]; intro a1 wx L hs hdf hfar hold hI hno hup hdeps K hK; have HOLD := hid hold; clear hold
          have hk : ([5, 7] : List Nat).countP L = 1 := by simp [hup 5 (by kernel_rfl) (by kernel_rfl), hno 7 (by kernel_rfl)]
          have hK := phK_write (i := 7) 1 hk (by rw [phN_count (by kernel_rfl) (hno 7 (by kernel_rfl)), hk]) hK
          have hS := (show Lx W wx none ((G, ((l.drop (k * C)).map (Value.int .i32)), 21) :: [(Bo, [.int .i64 (C : Int), .slice (some ⟨O, 0, none⟩) q q], 26), (O, ((l.take (k * C) ++ List.replicate (q - k * C) (0 : Int)).map (Value.int .i32)), 21), (R6, [.int .i64 0, .int .i64 0, .int .i64 0, .int .i64 0, .slice none 0 0], 24), (R4, [.int .i64 (C : Int), .slice (some ⟨O, 0, none⟩) q q], 26), (B2, [.int .i64 (C : Int), .int .i64 (cap : Int), .int .i64 (rd + f), .int .i64 (rd + (k : Int)), .slice (some ⟨G, 0, none⟩) (n - k * C) (n - k * C)], 24)]) from phA_at hk hI)
          obtain e2 := (show (a1.eval (.tmp 59)) = .agg #[.int .i64 (C : Int), .int .i64 (cap : Int), .int .i64 (rd + f), .int .i64 (rd + (k : Int)), .slice (some ⟨G, 0, none⟩) (n - k * C) (n - k * C)] from phF_at hk (hdeps 4 (by kernel_rfl) (by kernel_rfl) _ rfl))
          have e4 : a1.eval (.tmp 6) = .pointer (some ⟨R6, 0, none⟩) := far_eval (hfar 6 (by kernel_rfl)) rfl
          refine wp_store_blk _ _ _ rfl R6 e4 [.int .i64 (C : Int), .int .i64 (cap : Int), .int .i64 (rd + f), .int .i64 (rd + (k : Int)), .slice (some ⟨G, 0, none⟩) (n - k * C) (n - k * C)] e2 _ _ (hS.blk 3 rfl) rfl (by kernel_rfl) (by intro v hv; simp at hv; rcases hv with rfl | rfl | rfl | rfl | rfl <;> rfl) ?_
          intro w' hb' ho
          have hl4 := hS.onlySet 3 rfl ho hb'
          simp only [List.set_cons_zero, List.set_cons_succ] at hl4
          refine hK undef w' hl4 trivial ?_
          intro j oj hj hji hl hf
          match j with
          | 7 => exact absurd rfl hji
          | 5 => exact trivial
          | 0 => exact hf
          | 1 => exact hf
          | 2 => exact hf
          | 3 => exact hf
          | 4 => exact hf
          | 6 => exact hf
          | 8 => exact hf
          | j + 9 => exact trivial
        · unfold StepGPR; rw [if_pos (by kernel_rfl)]; intro a1 wx L hs hdf hfar hold hI hno hup hdeps K hK; have HOLD := hid hold; clear hold
          have hK := phK_plain (i := 8) (by kernel_rfl) hK
          exact wp_move _ (.inr rfl) _ rfl (hK _ _ (phA_self hI) (by first | rfl | trivial) (fun _ _ _ _ _ h => h))
      · intro vs wx L hvs hall hI hF
        obtain ⟨v0, r0, rfl, h0r⟩ := list_open hvs
        obtain ⟨v1, r1, rfl, h1r⟩ := list_open h0r
        obtain ⟨v2, r2, rfl, h2r⟩ := list_open h1r
        obtain ⟨v3, r3, rfl, h3r⟩ := list_open h2r
        obtain ⟨v4, r4, rfl, h4r⟩ := list_open h3r
        obtain ⟨v5, r5, rfl, h5r⟩ := list_open h4r
        obtain ⟨v6, r6, rfl, h6r⟩ := list_open h5r
        obtain ⟨v7, r7, rfl, h7r⟩ := list_open h6r
        obtain ⟨v8, r8, rfl, h8r⟩ := list_open h7r
        obtain rfl : r8 = [] := List.eq_nil_of_length_eq_zero h8r
        clear h0r h1r h2r h3r h4r h5r h6r h7r
        have hk : ([5, 7] : List Nat).countP L = 2 := by simp [hall 5 (Nat.le_of_ble_eq_true rfl), hall 7 (Nat.le_of_ble_eq_true rfl)]
        have f0 : v0 = .agg #[.int .i64 (C : Int), .slice (some ⟨O, 0, none⟩) q q] := phF_at hk (hF 0 (Nat.le_of_ble_eq_true rfl))
        have f1 : v1 = .int .i64 (m : Int) := phF_at hk (hF 1 (Nat.le_of_ble_eq_true rfl))
        have f2 : v2 = .int .i64 (k : Int) := phF_at hk (hF 2 (Nat.le_of_ble_eq_true rfl))
        have f3 : v3 = .int .i64 ((m : Int) - (k : Int)) := phF_at hk (hF 3 (Nat.le_of_ble_eq_true rfl))
        have f4 : v4 = .agg #[.int .i64 (C : Int), .int .i64 (cap : Int), .int .i64 (rd + f), .int .i64 (rd + (k : Int)), .slice (some ⟨G, 0, none⟩) (n - k * C) (n - k * C)] := phF_at hk (hF 4 (Nat.le_of_ble_eq_true rfl))
        have f6 : v6 = .int .i64 ((m : Int) - (k : Int)) := phF_at hk (hF 6 (Nat.le_of_ble_eq_true rfl))
        have f8 : v8 = .int .i64 0 := phF_at hk (hF 8 (Nat.le_of_ble_eq_true rfl))
        have hS : Lx W wx none ((G, ((l.drop (k * C)).map (Value.int .i32)), 21) :: [(Bo, [.int .i64 (C : Int), .slice (some ⟨O, 0, none⟩) q q], 26), (O, ((l.take (k * C) ++ List.replicate (q - k * C) (0 : Int)).map (Value.int .i32)), 21), (R6, [.int .i64 (C : Int), .int .i64 (cap : Int), .int .i64 (rd + f), .int .i64 (rd + (k : Int)), .slice (some ⟨G, 0, none⟩) (n - k * C) (n - k * C)], 24), (R4, [.int .i64 (C : Int), .slice (some ⟨O, 0, none⟩) q q], 26), (B2, [.int .i64 (C : Int), .int .i64 (cap : Int), .int .i64 (rd + f), .int .i64 (rd + (k : Int)), .slice (some ⟨G, 0, none⟩) (n - k * C) (n - k * C)], 24)]) := phA_at hk hI
        clear hk hI hF hall
        subst f0
        subst f1
        subst f2
        subst f3
        subst f4
        subst f6
        subst f8
        simp only [putVals, List.setIfInBounds_toArray, List.set_cons_zero, List.set_cons_succ]
        have HL7 := hid hS
        clear hS hIX HL6
        have hL := HL7.out.facts
        simp only [liveAt, cellsAt, and_true, Nat.zero_add, Nat.reduceAdd, World.size_alloc] at hL
        go_wp2_with fail
        refine bodyPost_ret (by simp [results, Try.results16, go_sem, *]; try rfl) rfl ?_
        exact ⟨O, G, rfl, HL7.out.blk 2 rfl, HL7.out.blk 0 rfl, HL7.out.ge 2 rfl, HL7.out.ge 0 rfl, HL7.out.ne 2 0 rfl rfl (by omega), HL7.out.below⟩
end Go.Proofs.Ytlelnhapcfjhfaa
