/- Waves and dice. No statement is proved here. -/
import Derived.Test.YtlelnhapcfjhfaaRT5
namespace Go.Proofs.Ytlelnhapcfjhfaa
open Go.ChangeShapes Go.WideShapes Go.ChangeAt Go.RowKit
set_option linter.unusedVariables false
set_option linter.unusedSimpArgs false

def wv (seed i c : Nat) : Int := (((i : Int) * 7919 + (c : Int) * 104729 + (seed : Int) * 15485863) % 4001 - 2000) * 1000
theorem wv_smp (seed i c : Nat) : smpB (wv seed i c) = true := by unfold wv smpB; exact decide_eq_true (by omega)
/-- the first j samples of a wave -/
def wav (seed ch fr j : Nat) : List Int := (List.range j).map fun q => wv seed (fr + q / ch) (q % ch)
theorem wav_len (seed ch fr j : Nat) : (wav seed ch fr j).length = j := by simp [wav]
theorem wav_succ (seed ch fr i c : Nat) (h : c < ch) : wav seed ch fr (i * ch + (c + 1)) = wav seed ch fr (i * ch + c) ++ [wv seed (fr + i) c] := by
  unfold wav
  rw [show i * ch + (c + 1) = (i * ch + c) + 1 by omega, List.range_succ, List.map_append, List.map_singleton]
  have h1 : (i * ch + c) / ch = i := by rw [Nat.mul_comm, Nat.mul_add_div (by omega), Nat.div_eq_of_lt h]; omega
  have h2 : (i * ch + c) % ch = c := by rw [Nat.mul_comm, Nat.mul_add_mod, Nat.mod_eq_of_lt h]
  rw [h1, h2]
theorem wav_smp (seed ch fr j : Nat) : ∀ x ∈ wav seed ch fr j, smpB x = true := by
  intro x hx; obtain ⟨q, _, rfl⟩ := List.mem_map.1 hx; exact wv_smp _ _ _
theorem wav_bv (seed ch fr n : Nat) (h : 1 ≤ ch ∧ ch ≤ 8) (hn : n ≤ 65536) : BV ch n (wav seed ch fr (n * ch)) := ⟨h.1, h.2, wav_len _ _ _ _, hn, wav_smp _ _ _ _⟩
theorem i32_in (n : Int) (h : -2147483648 ≤ n ∧ n ≤ 2147483647) : IntKind.i32.wrap n = n := by simp [IntKind.wrap, IntKind.bits, IntKind.signed]; omega
set_option maxHeartbeats 8000000 in
theorem F_Wave (seed ch fr n : Nat) (h0 : seed ≤ 1000) (h1 : 1 ≤ ch) (h8 : ch ≤ 8) (h2 : fr ≤ 100000) (h3 : n ≤ 1000) :
    Fun 11 [.c (vI seed), .c (vI ch), .c (vI fr), .c (vI n)] [] 0 (.e (blkA ch (ownI 0 (wav seed ch fr (n * ch))))) [(0, some (21, cI .i32 (wav seed ch fr (n * ch))))] 1 := by
  refine Fun.mk (n := 47) Try.func11 rfl rfl (Nat.le_of_ble_eq_true rfl) ?_
  intro cx hcx
  simp only [argSlots, Nat.reduceAdd]
  repeat refine AW.seq ?_
  refine AW.reg (nx' := 1) (by kernel_rfl) ?_
  refine SK.w1 rfl rfl (ok_alloc' (nx := 0) (zs := [.int .i64 0, .slice none 0 0]) (cs := [LC (.int .i64 0), LC (.slice none 0 0)]) rfl (by kernel_rfl) rfl rfl) ?_
  refine SK.nil ⟨by kernel_rfl, ?_⟩
  repeat refine AW.seq ?_
  refine AW.reg (nx' := 2) (by kernel_rfl) ?_
  refine SK.p rfl rfl (ok_move rfl (Ev.tmp (Look.of rfl))) ?_
  refine SK.p rfl rfl (ok_build (places := [(0, 1), (1, 1)]) (zs := [.int .i64 0, .slice none 0 0]) rfl ⟨_, Try.underlying26, fun w => by kernel_rfl⟩ (by kernel_rfl) rfl (EvL.cons (Ev.tmp (Look.of rfl)) EvL.nil) (by first | (simp +decide only [fillC, updC, cellsOf1, List.map_cons, List.map_nil, List.length_cons, List.length_nil, List.set_cons_zero, List.set_cons_succ, List.getElem?_cons_zero, List.getElem?_cons_succ, Nat.zero_add, Nat.add_zero, Nat.reduceAdd, Nat.reduceMul, Nat.reduceLeDiff, Nat.le_refl, and_self, and_true, true_and, if_true, ↓reduceIte]; done) | (simp +decide only [fillC, updC, cellsOf1, List.map_cons, List.map_nil, List.length_cons, List.length_nil, List.set_cons_zero, List.set_cons_succ, List.getElem?_cons_zero, List.getElem?_cons_succ, Nat.zero_add, Nat.add_zero, Nat.reduceAdd, Nat.reduceMul, Nat.reduceLeDiff, Nat.le_refl, and_self, and_true, true_and, if_true, ↓reduceIte]; rfl) | (simp [fillC, updC, cellsOf1]; rfl) | rfl)) ?_
  refine SK.w1 rfl rfl (ok_alloc' (nx := 1) (zs := [.int .i64 0, .slice none 0 0]) (cs := [LC (.int .i64 0), LC (.slice none 0 0)]) rfl (by kernel_rfl) rfl rfl) ?_
  refine SK.n rfl rfl (by first | exact ok_store_all (n := 2) rfl (by kernel_rfl) (Ev.tmp (Look.of rfl)) (Ev.tmp (Look.of rfl)) (Look.of rfl) rfl rfl | exact ok_store (n := 2) (bb := true) rfl (by kernel_rfl) (Ev.tmp (Look.of rfl)) (Ev.tmp (Look.of rfl)) (Look.of rfl) rfl (by first | exact Nat.le_of_ble_eq_true rfl | assumption | (simp only [cI_len, dI_len, List.length_map, List.length_append, List.length_cons, List.length_nil]; omega) | omega) (by first | assumption | (simp only [updC, cellsOf1, List.set_cons_zero, List.set_cons_succ]; rfl) | rfl)) ?_
  refine SK.nil ⟨by kernel_rfl, ?_⟩
  refine AW.adopt (b := 1) (i := 1) (s := 1) 21 (Look.of rfl) rfl rfl ?_
  repeat refine AW.seq ?_
  refine AW.reg (nx' := 3) (by kernel_rfl) ?_
  refine SK.p rfl rfl (ok_move rfl (Ev.tmp (Look.of rfl))) ?_
  refine SK.p rfl rfl (ok_assign rfl (Ev.tmp (Look.of rfl))) ?_
  refine SK.nil ⟨by kernel_rfl, ?_⟩
  repeat refine AW.seq ?_
  refine AW.block ?_
  refine AW.loop (α := {i : Nat // i ≤ n}) 0 hcx (fun i => ⟨[(0, .e (.c (vI seed))), (1, .e (.c (vI ch))), (2, .e (.c (vI fr))), (3, .e (.c (vI n))), (8, .e (.c (.ptr 0 0))), (9, .e (.c (.ptr 1 0))), (10, LV (.int .i64 ((fr + i.1 : Nat) : Int)))], [(0, some (26, [vI 0, LC nilS])), (1, some (26, [vI ch, ownI 2 (wav seed ch fr (i.1 * ch))])), (2, some (21, cI .i32 (wav seed ch fr (i.1 * ch))))], 3⟩) (fun i => n - i.1) ⟨0, by omega⟩ ?_ ?_
  · have e0 : wav seed ch fr (0 * ch) = [] := by rw [Nat.zero_mul]; rfl
    dsimp only
    rw [e0]
    exact ⟨fun b => b, (by repeat' (first | exact trivial | refine And.intro (And.intro (by first | rfl | assumption) ⟨_, (Look.of rfl), (by first | rfl | assumption | (simp [mapPV, mapE, mapC] <;> omega))⟩) ?_)), (by repeat' (first | exact RenG.base (fun b h => by first | exact absurd h (Nat.not_lt_zero _) | (have h0 : b = 0 := Nat.lt_one_iff.mp h; subst h0; rfl)) (Nat.le_of_ble_eq_true rfl) | refine RenG.cons ?_ rfl rfl (Look.of rfl) (by first | rfl | exact cI_map _ _ _ | assumption) (by first | rfl | exact cI_low _ _ _ | assumption) rfl))⟩
  intro ⟨i, hi⟩
  dsimp only
  by_cases hlt : i < n
  · skip
    repeat refine AW.seq ?_
    refine AW.reg (nx' := 3) (by kernel_rfl) ?_
    refine SK.p rfl rfl (ok_move rfl (Ev.tmp (Look.of rfl))) ?_
    refine SK.p rfl rfl (ok_move rfl (Ev.tmp (Look.of rfl))) ?_
    refine SK.p rfl rfl (ok_move rfl (Ev.tmp (Look.of rfl))) ?_
    refine SK.p rfl rfl (by first | exact ok_bin rfl (Ev.tmp (Look.of rfl)) (Ev.tmp (Look.of rfl)) (r_add (by first | assumption | exact IntWalk.i64_in _ (by omega) | rfl)) rfl) ?_
    refine SK.p rfl rfl (by first | exact ok_bin rfl (Ev.tmp (Look.of rfl)) (Ev.tmp (Look.of rfl)) (r_lss (by first | assumption | exact decide_eq_true (by omega) | exact decide_eq_false (by omega) | rfl)) rfl) ?_
    refine SK.nil ⟨by kernel_rfl, ?_⟩
    repeat refine AW.seq ?_
    refine AW.cond_t (.tmp (Look.of rfl)) ?_
    repeat refine AW.seq ?_
    refine AW.skip ?_
    repeat refine AW.seq ?_
    refine AW.block ?_
    repeat refine AW.seq ?_
    refine AW.reg (nx' := 3) (by kernel_rfl) ?_
    refine SK.p rfl rfl (ok_assign rfl (Ev.lit rfl)) ?_
    refine SK.nil ⟨by kernel_rfl, ?_⟩
    repeat refine AW.seq ?_
    refine AW.block ?_
    refine AW.loop (α := {c : Nat // c ≤ ch}) 0 hcx (fun c => ⟨[(0, .e (.c (vI seed))), (1, .e (.c (vI ch))), (2, .e (.c (vI fr))), (3, .e (.c (vI n))), (8, .e (.c (.ptr 0 0))), (9, .e (.c (.ptr 1 0))), (10, LV (.int .i64 ((fr + i : Nat) : Int))), (11, LV (.int .i64 ((c.1 : Nat) : Int)))], [(0, some (26, [vI 0, LC nilS])), (1, some (26, [vI ch, ownI 2 (wav seed ch fr (i * ch + c.1))])), (2, some (21, cI .i32 (wav seed ch fr (i * ch + c.1))))], 3⟩) (fun c => ch - c.1) ⟨0, by omega⟩ ?_ ?_
    · dsimp only
      rw [Nat.add_zero]
      exact ⟨fun b => b, (by repeat' (first | exact trivial | refine And.intro (And.intro (by first | rfl | assumption) ⟨_, (Look.of rfl), (by first | rfl | assumption | (simp [mapPV, mapE, mapC] <;> omega))⟩) ?_)), (by repeat' (first | exact RenG.base (fun b h => by first | exact absurd h (Nat.not_lt_zero _) | (have h0 : b = 0 := Nat.lt_one_iff.mp h; subst h0; rfl)) (Nat.le_of_ble_eq_true rfl) | refine RenG.cons ?_ rfl rfl (Look.of rfl) (by first | rfl | exact cI_map _ _ _ | assumption) (by first | rfl | exact cI_low _ _ _ | assumption) rfl))⟩
    intro ⟨c, hc⟩
    dsimp only
    by_cases hlc : c < ch
    · have hic : i * ch + c ≤ 8000 := by
        have : i * ch ≤ 999 * 8 := Nat.mul_le_mul (by omega) h8
        omega
      have hwl := wav_len seed ch fr (i * ch + c)
      obtain ⟨Y, hY, y0, y1⟩ : ∃ Y : Int, (((fr + i : Nat) : Int) * 7919 + (c : Int) * 104729 + (seed : Int) * 15485863).tmod 4001 = Y ∧ 0 ≤ Y ∧ Y ≤ 4000 := ⟨_, rfl, by rw [Int.tmod_eq_emod_of_nonneg (by omega)]; omega, by rw [Int.tmod_eq_emod_of_nonneg (by omega)]; omega⟩
      have hcv : IntKind.i32.wrap ((Y - 2000) * 1000) = (Y - 2000) * 1000 := i32_in _ (by omega)
      have hwv : wv seed (fr + i) c = (Y - 2000) * 1000 := by unfold wv; rw [← hY, Int.tmod_eq_emod_of_nonneg (by omega)]
      have hsu := wav_succ seed ch fr i c hlc
      have hcat : cI .i32 (wav seed ch fr (i * ch + c)) ++ [LC (.int .i32 ((Y - 2000) * 1000))] = cI .i32 (wav seed ch fr (i * ch + (c + 1))) := by
        rw [hsu, ← cI_app, hwv]; rfl
      have hnm : (wav seed ch fr (i * ch + c)).length + 1 = (wav seed ch fr (i * ch + (c + 1))).length := by rw [wav_len, wav_len]; omega
      clear hsu hwv
      repeat refine AW.seq ?_
      refine AW.reg (nx' := 3) (by kernel_rfl) ?_
      refine SK.p rfl rfl (ok_move rfl (Ev.tmp (Look.of rfl))) ?_
      refine SK.p rfl rfl (ok_move rfl (Ev.tmp (Look.of rfl))) ?_
      refine SK.p rfl rfl (by first | exact ok_bin rfl (Ev.tmp (Look.of rfl)) (Ev.tmp (Look.of rfl)) (r_lss (by first | assumption | exact decide_eq_true (by omega) | exact decide_eq_false (by omega) | rfl)) rfl) ?_
      refine SK.nil ⟨by kernel_rfl, ?_⟩
      repeat refine AW.seq ?_
      refine AW.cond_t (.tmp (Look.of rfl)) ?_
      repeat refine AW.seq ?_
      refine AW.skip ?_
      repeat refine AW.seq ?_
      refine AW.block ?_
      repeat refine AW.seq ?_
      refine AW.reg (nx' := 3) (by kernel_rfl) ?_
      refine SK.p rfl rfl (ok_move rfl (Ev.tmp (Look.of rfl))) ?_
      refine SK.p rfl rfl (by first | exact ok_bin rfl (Ev.tmp (Look.of rfl)) (Ev.lit rfl) (r_mul (by first | assumption | exact IntWalk.i64_in _ (by omega) | rfl)) rfl) ?_
      refine SK.p rfl rfl (ok_move rfl (Ev.tmp (Look.of rfl))) ?_
      refine SK.p rfl rfl (by first | exact ok_bin rfl (Ev.tmp (Look.of rfl)) (Ev.lit rfl) (r_mul (by first | assumption | exact IntWalk.i64_in _ (by omega) | rfl)) rfl) ?_
      refine SK.p rfl rfl (by first | exact ok_bin rfl (Ev.tmp (Look.of rfl)) (Ev.tmp (Look.of rfl)) (r_add (by first | assumption | exact IntWalk.i64_in _ (by omega) | rfl)) rfl) ?_
      refine SK.p rfl rfl (ok_move rfl (Ev.tmp (Look.of rfl))) ?_
      refine SK.p rfl rfl (by first | exact ok_bin rfl (Ev.tmp (Look.of rfl)) (Ev.lit rfl) (r_mul (by first | assumption | exact IntWalk.i64_in _ (by omega) | rfl)) rfl) ?_
      refine SK.p rfl rfl (by first | exact ok_bin rfl (Ev.tmp (Look.of rfl)) (Ev.tmp (Look.of rfl)) (r_add (by first | assumption | exact IntWalk.i64_in _ (by omega) | rfl)) rfl) ?_
      refine SK.p rfl rfl (by first | exact ok_bin rfl (Ev.tmp (Look.of rfl)) (Ev.lit rfl) (r_rem (by first | assumption | omega) (by first | assumption | rfl)) rfl) ?_
      refine SK.p rfl rfl (by first | exact ok_bin rfl (Ev.tmp (Look.of rfl)) (Ev.lit rfl) (r_sub (by first | assumption | exact IntWalk.i64_in _ (by omega) | rfl)) rfl) ?_
      refine SK.p rfl rfl (ok_assign rfl (Ev.tmp (Look.of rfl))) ?_
      refine SK.nil ⟨by kernel_rfl, ?_⟩
      repeat refine AW.seq ?_
      refine AW.reg (nx' := 5) (by kernel_rfl) ?_
      refine SK.p rfl rfl (by first | exact ok_fieldAddr (k := 1) (n := 0) (bb := false) rfl (by kernel_rfl) (Ev.tmp (Look.of rfl)) (by first | exact Nat.zero_add _ | rfl) | exact ok_fieldAddr_rp (k := 1) (n := 0) (bb := false) rfl (by kernel_rfl) (Ev.tmp (Look.of rfl)) (by first | assumption | rfl)) ?_
      refine SK.p rfl rfl (by first | exact ok_load rfl (by kernel_rfl) (Ev.tmp (Look.of rfl)) (Look.of rfl) (by first | rfl | assumption) | exact ok_load_rp rfl (by kernel_rfl) (Ev.tmp (Look.of rfl)) (by first | rfl | assumption)) ?_
      refine SK.p rfl rfl (ok_move rfl (Ev.tmp (Look.of rfl))) ?_
      refine SK.p rfl rfl (by first | exact ok_bin rfl (Ev.tmp (Look.of rfl)) (Ev.lit rfl) (r_mul (by first | assumption | exact IntWalk.i64_in _ (by omega) | rfl)) rfl) ?_
      refine SK.p rfl rfl (ok_conv_int (k := .i32) rfl (by kernel_rfl) (by kernel_rfl) (Ev.tmp (Look.of rfl)) (by first | assumption | exact AmLib.i32_in _ (by omega) | rfl)) ?_
      refine SK.w1 rfl rfl (ok_buildSlice (nx := 3) (e := 21) (s := 1) (bb := false) (zs := [.int .i32 0]) rfl (by kernel_rfl) (by kernel_rfl) (by kernel_rfl) rfl rfl (EvL.cons (Ev.tmp (Look.of rfl)) EvL.nil) (by decide) (by decide) (by first | (simp +decide only [fillC, updC, cellsOf1, List.map_cons, List.map_nil, List.length_cons, List.length_nil, List.set_cons_zero, List.set_cons_succ, List.getElem?_cons_zero, List.getElem?_cons_succ, Nat.zero_add, Nat.add_zero, Nat.reduceAdd, Nat.reduceMul, Nat.reduceLeDiff, Nat.le_refl, and_self, and_true, true_and, if_true, ↓reduceIte, List.range_succ, List.range_zero, List.nil_append, List.cons_append, List.map_append]; rfl) | (simp [fillC, updC, cellsOf1, List.range_succ]; done) | (simp [fillC, updC, cellsOf1, List.range_succ]; rfl) | rfl)) ?_
      first | refine SK.w1 rfl rfl (ok_append_nil' (nx := 4) (e := 21) (z := (.int .i32 0)) (s := 1) (bs := 4) rfl (by kernel_rfl) (by kernel_rfl) rfl (by decide) (Ev.tmp (Look.of rfl)) (by first | exact Src.all (Ev.tmp (Look.of rfl)) (Look.of rfl) (by first | rfl | assumption | (simp only [cI_len, dI_len, List.length_map, List.length_append, List.length_cons, List.length_nil]; omega)) | exact Src.own (Ev.tmp (Look.of rfl)) (Look.of rfl) (by first | assumption | (simp only [Nat.mul_one, cI_part]; rfl) | rfl) (by first | rfl | assumption | (simp only [cI_len, dI_len, List.length_map, List.length_append, List.length_cons, List.length_nil]; omega)) | exact Src.sl (Ev.tmp (Look.of rfl)) (by first | rfl | assumption | (simp only [cI_len, dI_len, List.length_map, List.length_append, List.length_cons, List.length_nil]; omega)) | exact Src.nil (Ev.tmp (Look.of rfl))) (by first | assumption | (unfold maxLen; omega)) (by omega) (by first | assumption | (simp only [← cI_dI, cI_app]; rfl) | rfl)) ?_ | refine SK.w2 rfl rfl (ok_append' (nx := 4) (e := 21) (z := (.int .i32 0)) (s := 1) (bs := 4) rfl (by kernel_rfl) (by kernel_rfl) rfl (by decide) (Ev.tmp (Look.of rfl)) (Look.of rfl) (by first | rfl | assumption | (simp only [cI_len, dI_len, List.length_map, List.length_append, List.length_cons, List.length_nil]; omega)) (by first | exact Src.all (Ev.tmp (Look.of rfl)) (Look.of rfl) (by first | rfl | assumption | (simp only [cI_len, dI_len, List.length_map, List.length_append, List.length_cons, List.length_nil]; omega)) | exact Src.own (Ev.tmp (Look.of rfl)) (Look.of rfl) (by first | assumption | (simp only [Nat.mul_one, cI_part]; rfl) | rfl) (by first | rfl | assumption | (simp only [cI_len, dI_len, List.length_map, List.length_append, List.length_cons, List.length_nil]; omega)) | exact Src.sl (Ev.tmp (Look.of rfl)) (by first | rfl | assumption | (simp only [cI_len, dI_len, List.length_map, List.length_append, List.length_cons, List.length_nil]; omega)) | exact Src.nil (Ev.tmp (Look.of rfl))) (by first | assumption | (unfold maxLen; omega)) (by omega) (by first | assumption | (simp only [← cI_dI, cI_app]; rfl) | rfl) (by first | assumption | rfl)) ?_
      refine SK.p rfl rfl (by first | exact ok_fieldAddr (k := 1) (n := 0) (bb := false) rfl (by kernel_rfl) (Ev.tmp (Look.of rfl)) (by first | exact Nat.zero_add _ | rfl) | exact ok_fieldAddr_rp (k := 1) (n := 0) (bb := false) rfl (by kernel_rfl) (Ev.tmp (Look.of rfl)) (by first | assumption | rfl)) ?_
      refine SK.n rfl rfl (by first | exact ok_store (n := 1) (bb := false) rfl (by kernel_rfl) (Ev.tmp (Look.of rfl)) (Ev.tmp (Look.of rfl)) (Look.of rfl) rfl (by first | exact Nat.le_of_ble_eq_true rfl | assumption | (simp only [cI_len, dI_len, List.length_map, List.length_append, List.length_cons, List.length_nil]; omega) | omega) (by first | assumption | (simp only [updC, cellsOf1, List.set_cons_zero, List.set_cons_succ]; rfl) | rfl)) ?_
      refine SK.nil ⟨by kernel_rfl, ?_⟩
      repeat refine AW.seq ?_
      refine AW.reg (nx' := 5) (by kernel_rfl) ?_
      refine SK.p rfl rfl (ok_move rfl (Ev.tmp (Look.of rfl))) ?_
      refine SK.p rfl rfl (by first | exact ok_bin rfl (Ev.tmp (Look.of rfl)) (Ev.lit rfl) (r_add (by first | assumption | exact IntWalk.i64_in _ (by omega) | rfl)) rfl) ?_
      refine SK.p rfl rfl (ok_assign rfl (Ev.tmp (Look.of rfl))) ?_
      refine SK.nil ⟨by kernel_rfl, ?_⟩
      exact ⟨⟨c + 1, hlc⟩, ⟨fun b => if b = 2 then 4 else b, (by repeat' (first | exact trivial | refine And.intro (And.intro (by first | rfl | assumption) ⟨_, (Look.of rfl), (by first | rfl | assumption | (simp [mapPV, mapE, mapC] <;> omega))⟩) ?_)), (by repeat' (first | exact RenG.base (fun b h => by first | exact absurd h (Nat.not_lt_zero _) | (have h0 : b = 0 := Nat.lt_one_iff.mp h; subst h0; rfl)) (Nat.le_of_ble_eq_true rfl) | refine RenG.cons ?_ rfl rfl (Look.of rfl) (by first | rfl | exact cI_map _ _ _ | assumption) (by first | rfl | exact cI_low _ _ _ | assumption) rfl))⟩, by first | omega | (simp <;> omega)⟩
    · obtain rfl : c = ch := by omega
      have hcs : i * c + c = (i + 1) * c := by rw [Nat.add_mul, Nat.one_mul]
      rw [hcs]
      repeat refine AW.seq ?_
      refine AW.reg (nx' := 3) (by kernel_rfl) ?_
      refine SK.p rfl rfl (ok_move rfl (Ev.tmp (Look.of rfl))) ?_
      refine SK.p rfl rfl (ok_move rfl (Ev.tmp (Look.of rfl))) ?_
      refine SK.p rfl rfl (by first | exact ok_bin rfl (Ev.tmp (Look.of rfl)) (Ev.tmp (Look.of rfl)) (r_lss (by first | assumption | exact decide_eq_true (by omega) | exact decide_eq_false (by omega) | rfl)) rfl) ?_
      refine SK.nil ⟨by kernel_rfl, ?_⟩
      repeat refine AW.seq ?_
      refine AW.cond_f (.tmp (Look.of rfl)) ?_
      repeat refine AW.seq ?_
      refine AW.exit ?_
      repeat refine AW.seq ?_
      refine AW.reg (nx' := 3) (by kernel_rfl) ?_
      refine SK.p rfl rfl (ok_move rfl (Ev.tmp (Look.of rfl))) ?_
      refine SK.p rfl rfl (by first | exact ok_bin rfl (Ev.tmp (Look.of rfl)) (Ev.lit rfl) (r_add (by first | assumption | exact IntWalk.i64_in _ (by omega) | rfl)) rfl) ?_
      refine SK.p rfl rfl (ok_assign rfl (Ev.tmp (Look.of rfl))) ?_
      refine SK.nil ⟨by kernel_rfl, ?_⟩
      exact ⟨⟨i + 1, hlt⟩, ⟨fun b => b, (by repeat' (first | exact trivial | refine And.intro (And.intro (by first | rfl | assumption) ⟨_, (Look.of rfl), (by first | rfl | assumption | (simp [mapPV, mapE, mapC] <;> omega))⟩) ?_)), (by repeat' (first | exact RenG.base (fun b h => by first | exact absurd h (Nat.not_lt_zero _) | (have h0 : b = 0 := Nat.lt_one_iff.mp h; subst h0; rfl)) (Nat.le_of_ble_eq_true rfl) | refine RenG.cons ?_ rfl rfl (Look.of rfl) (by first | rfl | exact cI_map _ _ _ | assumption) (by first | rfl | exact cI_low _ _ _ | assumption) rfl))⟩, by first | omega | (simp <;> omega)⟩
  · obtain rfl : i = n := by omega
    repeat refine AW.seq ?_
    refine AW.reg (nx' := 3) (by kernel_rfl) ?_
    refine SK.p rfl rfl (ok_move rfl (Ev.tmp (Look.of rfl))) ?_
    refine SK.p rfl rfl (ok_move rfl (Ev.tmp (Look.of rfl))) ?_
    refine SK.p rfl rfl (ok_move rfl (Ev.tmp (Look.of rfl))) ?_
    refine SK.p rfl rfl (by first | exact ok_bin rfl (Ev.tmp (Look.of rfl)) (Ev.tmp (Look.of rfl)) (r_add (by first | assumption | exact IntWalk.i64_in _ (by omega) | rfl)) rfl) ?_
    refine SK.p rfl rfl (by first | exact ok_bin rfl (Ev.tmp (Look.of rfl)) (Ev.tmp (Look.of rfl)) (r_lss (by first | assumption | exact decide_eq_true (by omega) | exact decide_eq_false (by omega) | rfl)) rfl) ?_
    refine SK.nil ⟨by kernel_rfl, ?_⟩
    repeat refine AW.seq ?_
    refine AW.cond_f (.tmp (Look.of rfl)) ?_
    repeat refine AW.seq ?_
    refine AW.exit ?_
    repeat refine AW.seq ?_
    refine AW.reg (nx' := 3) (by kernel_rfl) ?_
    refine SK.p rfl rfl (by first | exact ok_load_all (n := 2) rfl (by kernel_rfl) (Ev.tmp (Look.of rfl)) (Look.of rfl) rfl | exact ok_load_agg (n := 2) rfl (by kernel_rfl) (Ev.tmp (Look.of rfl)) (Look.of rfl) (by first | assumption | rfl) (by first | rfl | assumption | (simp only [cI_len, dI_len, List.length_map, List.length_append, List.length_cons, List.length_nil]; omega)) | exact ok_load_rp_agg (n := 2) rfl (by kernel_rfl) (Ev.tmp (Look.of rfl)) (by first | assumption | rfl) (by first | rfl | assumption | (simp only [cI_len, dI_len, List.length_map, List.length_append, List.length_cons, List.length_nil]; omega))) ?_
    refine SK.n rfl rfl (by first | exact ok_store_all (n := 2) rfl (by kernel_rfl) (Ev.tmp (Look.of rfl)) (Ev.tmp (Look.of rfl)) (Look.of rfl) rfl rfl | exact ok_store (n := 2) (bb := true) rfl (by kernel_rfl) (Ev.tmp (Look.of rfl)) (Ev.tmp (Look.of rfl)) (Look.of rfl) rfl (by first | exact Nat.le_of_ble_eq_true rfl | assumption | (simp only [cI_len, dI_len, List.length_map, List.length_append, List.length_cons, List.length_nil]; omega) | omega) (by first | assumption | (simp only [updC, cellsOf1, List.set_cons_zero, List.set_cons_succ]; rfl) | rfl)) ?_
    refine SK.nil ⟨by kernel_rfl, ?_⟩
    exact AW.ret ⟨.inr rfl, _, fun b => if b = 0 then 2 else b, (.cons (.agg (n := 2) (Look.of rfl) (by kernel_rfl) (Look.of rfl) rfl rfl) .nil), (by first | rfl | assumption | simp [mapPV, mapE, mapC, pvOf]), (by first | rfl | assumption), (RenG.cons (RenG.base (fun b h => by first | exact absurd h (Nat.not_lt_zero _) | (have h0 : b = 0 := Nat.lt_one_iff.mp h; subst h0; rfl)) (Nat.le_of_ble_eq_true rfl)) rfl rfl (Look.of rfl) (by first | rfl | exact cI_map _ _ _ | assumption) (by first | rfl | exact cI_low _ _ _ | assumption) rfl)⟩
/-! dice -/
abbrev slB (l : List Int) : C := .d (.sl (dI .u8 l) l.length)
abbrev diceG (l : List Int) : List (Nat × Option Bk) := [(0, some (57, [slB l]))]
def Bytes (l : List Int) : Prop := ∀ x ∈ l, 0 ≤ x ∧ x ≤ 255
def nextV : List Int → Int → Int
  | [], _ => 0
  | x :: _, n => if n ≤ 1 then 0 else x % n
def nextL : List Int → Int → List Int
  | [], _ => []
  | x :: l, n => if n ≤ 1 then x :: l else l
theorem nextV_cons (x : Int) (l : List Int) (n : Int) : nextV (x :: l) n = if n ≤ 1 then 0 else x % n := rfl
theorem nextL_cons (x : Int) (l : List Int) (n : Int) : nextL (x :: l) n = if n ≤ 1 then x :: l else l := rfl
theorem nextV_bd {l : List Int} (h : Bytes l) (n : Int) (hn : 1 ≤ n) : 0 ≤ nextV l n ∧ nextV l n < n := by
  cases l with
  | nil => exact ⟨Int.le_refl 0, by show (0 : Int) < n; omega⟩
  | cons x l =>
    rw [nextV_cons]
    split
    · omega
    · exact ⟨Int.emod_nonneg _ (by omega), Int.emod_lt_of_pos _ (by omega)⟩
theorem nextL_bytes {l : List Int} (h : Bytes l) (n : Int) : Bytes (nextL l n) := by
  cases l with
  | nil => exact h
  | cons x l =>
    rw [nextL_cons]
    split
    · exact h
    · exact fun y hy => h y (List.mem_cons_of_mem _ hy)
set_option maxHeartbeats 4000000 in
theorem F_Next (l : List Int) (n : Int) (hb : Bytes l) : Fun 12 [.c (.ptr 0 0), .c (vI n)] (diceG l) 1 (LV (.int .i64 (nextV l n))) (diceG (nextL l n)) 1 := by
  cases l with
  | nil =>
    refine Fun.mk (n := 34) Try.func12 rfl rfl (Nat.le_of_ble_eq_true rfl) ?_
    intro cx hcx
    simp only [argSlots, Nat.reduceAdd]
    repeat refine AW.seq ?_
    refine AW.reg (nx' := 1) (by kernel_rfl) ?_
    refine SK.p rfl rfl (ok_assign rfl (Ev.lit rfl)) ?_
    refine SK.nil ⟨by kernel_rfl, ?_⟩
    repeat refine AW.seq ?_
    refine AW.reg (nx' := 1) (by kernel_rfl) ?_
    refine SK.p rfl rfl (ok_move rfl (Ev.tmp (Look.of rfl))) ?_
    refine SK.p rfl rfl (ok_nilCheck rfl (Ev.tmp (Look.of rfl))) ?_
    refine SK.p rfl rfl (by first | exact ok_fieldAddr (k := 0) (n := 0) (bb := false) rfl (by kernel_rfl) (Ev.tmp (Look.of rfl)) (by first | exact Nat.zero_add _ | rfl) | exact ok_fieldAddr_rp (k := 0) (n := 0) (bb := false) rfl (by kernel_rfl) (Ev.tmp (Look.of rfl)) (by first | assumption | rfl)) ?_
    refine SK.p rfl rfl (by first | exact ok_load rfl (by kernel_rfl) (Ev.tmp (Look.of rfl)) (Look.of rfl) (by first | rfl | assumption) | exact ok_load_rp rfl (by kernel_rfl) (Ev.tmp (Look.of rfl)) (by first | rfl | assumption)) ?_
    refine SK.p rfl rfl (by first | exact ok_len (ts := #[]) (ty := 0) rfl (by kernel_rfl) (Ev.tmp (Look.of rfl)) len_sl | exact ok_len (ts := #[]) (ty := 0) rfl (by kernel_rfl) (Ev.tmp (Look.of rfl)) len_own | exact ok_len (ts := #[]) (ty := 0) rfl (by kernel_rfl) (Ev.tmp (Look.of rfl)) len_nil) ?_
    refine SK.p rfl rfl (by first | exact ok_bin rfl (Ev.tmp (Look.of rfl)) (Ev.lit rfl) (r_eql (by first | assumption | exact decide_eq_true (by omega) | exact decide_eq_false (by omega) | rfl)) rfl | exact ok_bin rfl (Ev.tmp (Look.of rfl)) (Ev.lit rfl) (r_beql (by kernel_rfl) rfl) rfl) ?_
    refine SK.p rfl rfl (ok_move rfl (Ev.tmp (Look.of rfl))) ?_
    first | refine SK.gp rfl rfl rfl (Look.of rfl) rfl (ok_move rfl (Ev.tmp (Look.of rfl))) ?_ | refine SK.gn rfl rfl rfl (Look.of rfl) rfl rfl ?_
    first | refine SK.gp rfl rfl rfl (Look.of rfl) rfl (by first | exact ok_bin rfl (Ev.tmp (Look.of rfl)) (Ev.lit rfl) (r_leq (by first | assumption | exact decide_eq_true (by omega) | exact decide_eq_false (by omega) | rfl)) rfl) ?_ | refine SK.gn rfl rfl rfl (Look.of rfl) rfl rfl ?_
    refine SK.p rfl rfl (by first | exact ok_pick_t rfl (Ev.tmp (Look.of rfl)) (Ev.lit rfl) | exact ok_pick_f rfl (Ev.tmp (Look.of rfl)) (Ev.tmp (Look.of rfl)) | exact ok_pick rfl (Ev.tmp (Look.of rfl)) (Ev.lit rfl) (Ev.tmp (Look.of rfl))) ?_
    refine SK.nil ⟨by kernel_rfl, ?_⟩
    repeat refine AW.seq ?_
    refine AW.cond_t (.tmp (Look.of rfl)) ?_
    repeat refine AW.seq ?_
    refine AW.reg (nx' := 1) (by kernel_rfl) ?_
    refine SK.p rfl rfl (ok_assign rfl (Ev.lit rfl)) ?_
    refine SK.nil ⟨by kernel_rfl, ?_⟩
    exact AW.ret ⟨.inr rfl, _, fun b => if b = 0 then 0 else b, (.cons (.tmp (Look.of rfl)) .nil), (by first | rfl | assumption | simp [mapPV, mapE, mapC, pvOf]), (by first | rfl | assumption), (RenG.cons (RenG.base (fun b h => by first | exact absurd h (Nat.not_lt_zero _) | (have h0 : b = 0 := Nat.lt_one_iff.mp h; subst h0; rfl)) (Nat.le_of_ble_eq_true rfl)) rfl rfl (Look.of rfl) (by first | rfl | exact cI_map _ _ _ | assumption) (by first | rfl | exact cI_low _ _ _ | assumption) rfl)⟩
  | cons x l =>
    have hx := hb x (List.mem_cons_self ..)
    have hle : (x :: l).length = l.length + 1 := rfl
    by_cases hn : n ≤ 1
    · have e1 : nextV (x :: l) n = 0 := by rw [nextV_cons, if_pos hn]
      have e2 : nextL (x :: l) n = x :: l := by rw [nextL_cons, if_pos hn]
      rw [e1, e2]
      refine Fun.mk (n := 34) Try.func12 rfl rfl (Nat.le_of_ble_eq_true rfl) ?_
      intro cx hcx
      simp only [argSlots, Nat.reduceAdd]
      repeat refine AW.seq ?_
      refine AW.reg (nx' := 1) (by kernel_rfl) ?_
      refine SK.p rfl rfl (ok_assign rfl (Ev.lit rfl)) ?_
      refine SK.nil ⟨by kernel_rfl, ?_⟩
      repeat refine AW.seq ?_
      refine AW.reg (nx' := 1) (by kernel_rfl) ?_
      refine SK.p rfl rfl (ok_move rfl (Ev.tmp (Look.of rfl))) ?_
      refine SK.p rfl rfl (ok_nilCheck rfl (Ev.tmp (Look.of rfl))) ?_
      refine SK.p rfl rfl (by first | exact ok_fieldAddr (k := 0) (n := 0) (bb := false) rfl (by kernel_rfl) (Ev.tmp (Look.of rfl)) (by first | exact Nat.zero_add _ | rfl) | exact ok_fieldAddr_rp (k := 0) (n := 0) (bb := false) rfl (by kernel_rfl) (Ev.tmp (Look.of rfl)) (by first | assumption | rfl)) ?_
      refine SK.p rfl rfl (by first | exact ok_load rfl (by kernel_rfl) (Ev.tmp (Look.of rfl)) (Look.of rfl) (by first | rfl | assumption) | exact ok_load_rp rfl (by kernel_rfl) (Ev.tmp (Look.of rfl)) (by first | rfl | assumption)) ?_
      refine SK.p rfl rfl (by first | exact ok_len (ts := #[]) (ty := 0) rfl (by kernel_rfl) (Ev.tmp (Look.of rfl)) len_sl | exact ok_len (ts := #[]) (ty := 0) rfl (by kernel_rfl) (Ev.tmp (Look.of rfl)) len_own | exact ok_len (ts := #[]) (ty := 0) rfl (by kernel_rfl) (Ev.tmp (Look.of rfl)) len_nil) ?_
      refine SK.p rfl rfl (by first | exact ok_bin rfl (Ev.tmp (Look.of rfl)) (Ev.lit rfl) (r_eql (by first | assumption | exact decide_eq_true (by omega) | exact decide_eq_false (by omega) | rfl)) rfl | exact ok_bin rfl (Ev.tmp (Look.of rfl)) (Ev.lit rfl) (r_beql (by kernel_rfl) rfl) rfl) ?_
      refine SK.p rfl rfl (ok_move rfl (Ev.tmp (Look.of rfl))) ?_
      first | refine SK.gp rfl rfl rfl (Look.of rfl) rfl (ok_move rfl (Ev.tmp (Look.of rfl))) ?_ | refine SK.gn rfl rfl rfl (Look.of rfl) rfl rfl ?_
      first | refine SK.gp rfl rfl rfl (Look.of rfl) rfl (by first | exact ok_bin rfl (Ev.tmp (Look.of rfl)) (Ev.lit rfl) (r_leq (by first | assumption | exact decide_eq_true (by omega) | exact decide_eq_false (by omega) | rfl)) rfl) ?_ | refine SK.gn rfl rfl rfl (Look.of rfl) rfl rfl ?_
      refine SK.p rfl rfl (by first | exact ok_pick_t rfl (Ev.tmp (Look.of rfl)) (Ev.lit rfl) | exact ok_pick_f rfl (Ev.tmp (Look.of rfl)) (Ev.tmp (Look.of rfl)) | exact ok_pick rfl (Ev.tmp (Look.of rfl)) (Ev.lit rfl) (Ev.tmp (Look.of rfl))) ?_
      refine SK.nil ⟨by kernel_rfl, ?_⟩
      repeat refine AW.seq ?_
      refine AW.cond_t (.tmp (Look.of rfl)) ?_
      repeat refine AW.seq ?_
      refine AW.reg (nx' := 1) (by kernel_rfl) ?_
      refine SK.p rfl rfl (ok_assign rfl (Ev.lit rfl)) ?_
      refine SK.nil ⟨by kernel_rfl, ?_⟩
      exact AW.ret ⟨.inr rfl, _, fun b => if b = 0 then 0 else b, (.cons (.tmp (Look.of rfl)) .nil), (by first | rfl | assumption | simp [mapPV, mapE, mapC, pvOf]), (by first | rfl | assumption), (RenG.cons (RenG.base (fun b h => by first | exact absurd h (Nat.not_lt_zero _) | (have h0 : b = 0 := Nat.lt_one_iff.mp h; subst h0; rfl)) (Nat.le_of_ble_eq_true rfl)) rfl rfl (Look.of rfl) (by first | rfl | exact cI_map _ _ _ | assumption) (by first | rfl | exact cI_low _ _ _ | assumption) rfl)⟩
    · have e1 : nextV (x :: l) n = x % n := by rw [nextV_cons, if_neg hn]
      have e2 : nextL (x :: l) n = l := by rw [nextL_cons, if_neg hn]
      rw [e1, e2]
      have hkk : (x :: l).length - 1 = l.length := rfl
      have hpp : ((dI .u8 (x :: l)).drop (1 * 1)).take (l.length * 1) = dI .u8 l := by
        rw [Nat.mul_one, Nat.mul_one, dI_drop, dI_take, List.drop_one, List.tail_cons, List.take_length]
      have hm : x.tmod n = x % n := Int.tmod_eq_emod_of_nonneg hx.1
      have hcv : IntKind.i64.wrap x = x := IntWalk.i64_in _ (by omega)
      refine Fun.mk (n := 34) Try.func12 rfl rfl (Nat.le_of_ble_eq_true rfl) ?_
      intro cx hcx
      simp only [argSlots, Nat.reduceAdd]
      repeat refine AW.seq ?_
      refine AW.reg (nx' := 1) (by kernel_rfl) ?_
      refine SK.p rfl rfl (ok_assign rfl (Ev.lit rfl)) ?_
      refine SK.nil ⟨by kernel_rfl, ?_⟩
      repeat refine AW.seq ?_
      refine AW.reg (nx' := 1) (by kernel_rfl) ?_
      refine SK.p rfl rfl (ok_move rfl (Ev.tmp (Look.of rfl))) ?_
      refine SK.p rfl rfl (ok_nilCheck rfl (Ev.tmp (Look.of rfl))) ?_
      refine SK.p rfl rfl (by first | exact ok_fieldAddr (k := 0) (n := 0) (bb := false) rfl (by kernel_rfl) (Ev.tmp (Look.of rfl)) (by first | exact Nat.zero_add _ | rfl) | exact ok_fieldAddr_rp (k := 0) (n := 0) (bb := false) rfl (by kernel_rfl) (Ev.tmp (Look.of rfl)) (by first | assumption | rfl)) ?_
      refine SK.p rfl rfl (by first | exact ok_load rfl (by kernel_rfl) (Ev.tmp (Look.of rfl)) (Look.of rfl) (by first | rfl | assumption) | exact ok_load_rp rfl (by kernel_rfl) (Ev.tmp (Look.of rfl)) (by first | rfl | assumption)) ?_
      refine SK.p rfl rfl (by first | exact ok_len (ts := #[]) (ty := 0) rfl (by kernel_rfl) (Ev.tmp (Look.of rfl)) len_sl | exact ok_len (ts := #[]) (ty := 0) rfl (by kernel_rfl) (Ev.tmp (Look.of rfl)) len_own | exact ok_len (ts := #[]) (ty := 0) rfl (by kernel_rfl) (Ev.tmp (Look.of rfl)) len_nil) ?_
      refine SK.p rfl rfl (by first | exact ok_bin rfl (Ev.tmp (Look.of rfl)) (Ev.lit rfl) (r_eql (by first | assumption | exact decide_eq_true (by omega) | exact decide_eq_false (by omega) | rfl)) rfl | exact ok_bin rfl (Ev.tmp (Look.of rfl)) (Ev.lit rfl) (r_beql (by kernel_rfl) rfl) rfl) ?_
      refine SK.p rfl rfl (ok_move rfl (Ev.tmp (Look.of rfl))) ?_
      first | refine SK.gp rfl rfl rfl (Look.of rfl) rfl (ok_move rfl (Ev.tmp (Look.of rfl))) ?_ | refine SK.gn rfl rfl rfl (Look.of rfl) rfl rfl ?_
      first | refine SK.gp rfl rfl rfl (Look.of rfl) rfl (by first | exact ok_bin rfl (Ev.tmp (Look.of rfl)) (Ev.lit rfl) (r_leq (by first | assumption | exact decide_eq_true (by omega) | exact decide_eq_false (by omega) | rfl)) rfl) ?_ | refine SK.gn rfl rfl rfl (Look.of rfl) rfl rfl ?_
      refine SK.p rfl rfl (by first | exact ok_pick_t rfl (Ev.tmp (Look.of rfl)) (Ev.lit rfl) | exact ok_pick_f rfl (Ev.tmp (Look.of rfl)) (Ev.tmp (Look.of rfl)) | exact ok_pick rfl (Ev.tmp (Look.of rfl)) (Ev.lit rfl) (Ev.tmp (Look.of rfl))) ?_
      refine SK.nil ⟨by kernel_rfl, ?_⟩
      repeat refine AW.seq ?_
      refine AW.cond_f (.tmp (Look.of rfl)) ?_
      repeat refine AW.seq ?_
      refine AW.skip ?_
      repeat refine AW.seq ?_
      refine AW.reg (nx' := 1) (by kernel_rfl) ?_
      refine SK.p rfl rfl (ok_move rfl (Ev.tmp (Look.of rfl))) ?_
      refine SK.p rfl rfl (ok_nilCheck rfl (Ev.tmp (Look.of rfl))) ?_
      refine SK.p rfl rfl (by first | exact ok_fieldAddr (k := 0) (n := 0) (bb := false) rfl (by kernel_rfl) (Ev.tmp (Look.of rfl)) (by first | exact Nat.zero_add _ | rfl) | exact ok_fieldAddr_rp (k := 0) (n := 0) (bb := false) rfl (by kernel_rfl) (Ev.tmp (Look.of rfl)) (by first | assumption | rfl)) ?_
      refine SK.p rfl rfl (by first | exact ok_load rfl (by kernel_rfl) (Ev.tmp (Look.of rfl)) (Look.of rfl) (by first | rfl | assumption) | exact ok_load_rp rfl (by kernel_rfl) (Ev.tmp (Look.of rfl)) (by first | rfl | assumption)) ?_
      refine SK.p rfl rfl (by first | exact ok_index_sl (e := 5) (s := 1) (bb := false) rfl (by kernel_rfl) (by kernel_rfl) (Ev.tmp (Look.of rfl)) (Ev.lit rfl) (by omega) (by omega) (by first | assumption | (simp only [Int.toNat_natCast, Nat.mul_one, Int.toNat_zero, Nat.zero_mul, List.drop_zero, Nat.zero_add]; rfl) | rfl) | exact ok_index (e := 5) (s := 1) (bb := false) rfl (by kernel_rfl) (by kernel_rfl) (Ev.tmp (Look.of rfl)) (Ev.lit rfl) (by omega) (by omega) (by first | assumption | (simp only [Int.toNat_natCast, Nat.mul_one, Int.toNat_zero, Nat.zero_mul, List.drop_zero, Nat.zero_add]; rfl) | rfl)) ?_
      refine SK.p rfl rfl (by first | exact ok_load rfl (by kernel_rfl) (Ev.tmp (Look.of rfl)) (Look.of rfl) (by first | rfl | assumption) | exact ok_load_rp rfl (by kernel_rfl) (Ev.tmp (Look.of rfl)) (by first | rfl | assumption)) ?_
      refine SK.p rfl rfl (ok_conv_int (k := .i64) rfl (by kernel_rfl) (by kernel_rfl) (Ev.tmp (Look.of rfl)) (by first | assumption | exact IntWalk.i64_in _ (by omega) | rfl)) ?_
      refine SK.p rfl rfl (ok_assign rfl (Ev.tmp (Look.of rfl))) ?_
      refine SK.nil ⟨by kernel_rfl, ?_⟩
      repeat refine AW.seq ?_
      refine AW.reg (nx' := 1) (by kernel_rfl) ?_
      refine SK.p rfl rfl (ok_move rfl (Ev.tmp (Look.of rfl))) ?_
      refine SK.p rfl rfl (ok_move rfl (Ev.tmp (Look.of rfl))) ?_
      refine SK.p rfl rfl (ok_nilCheck rfl (Ev.tmp (Look.of rfl))) ?_
      refine SK.p rfl rfl (by first | exact ok_fieldAddr (k := 0) (n := 0) (bb := false) rfl (by kernel_rfl) (Ev.tmp (Look.of rfl)) (by first | exact Nat.zero_add _ | rfl) | exact ok_fieldAddr_rp (k := 0) (n := 0) (bb := false) rfl (by kernel_rfl) (Ev.tmp (Look.of rfl)) (by first | assumption | rfl)) ?_
      refine SK.p rfl rfl (by first | exact ok_load rfl (by kernel_rfl) (Ev.tmp (Look.of rfl)) (Look.of rfl) (by first | rfl | assumption) | exact ok_load_rp rfl (by kernel_rfl) (Ev.tmp (Look.of rfl)) (by first | rfl | assumption)) ?_
      refine SK.p rfl rfl (by first | exact ok_slice_sl (e := 5) (s := 1) (bb := false) rfl (by kernel_rfl) (by kernel_rfl) (Ev.tmp (Look.of rfl)) (Bd.yes (n := 1) (Ev.lit rfl) rfl) Bd.no Mx.no (by omega) (by omega) (by first | assumption | exact Nat.sub_zero _ | rfl) (by first | assumption | (simp only [Nat.mul_one, Nat.zero_mul, List.drop_zero, dI_take, dI_drop]; rfl) | rfl) | exact ok_slice (e := 5) (s := 1) (bb := false) rfl (by kernel_rfl) (by kernel_rfl) (Ev.tmp (Look.of rfl)) (Bd.yes (n := 1) (Ev.lit rfl) rfl) Bd.no Mx.no (by omega) (by omega) (by first | assumption | (simp only [Nat.mul_one, Nat.zero_mul, Nat.zero_add]; rfl) | rfl) (by first | assumption | exact Nat.sub_zero _ | rfl) | exact ok_slice_nil (e := 5) (s := 1) (bb := false) rfl (by kernel_rfl) (by kernel_rfl) (Ev.tmp (Look.of rfl)) (Bd.yes (n := 1) (Ev.lit rfl) rfl) Bd.no Mx.no) ?_
      refine SK.p rfl rfl (ok_nilCheck rfl (Ev.tmp (Look.of rfl))) ?_
      refine SK.p rfl rfl (by first | exact ok_fieldAddr (k := 0) (n := 0) (bb := false) rfl (by kernel_rfl) (Ev.tmp (Look.of rfl)) (by first | exact Nat.zero_add _ | rfl) | exact ok_fieldAddr_rp (k := 0) (n := 0) (bb := false) rfl (by kernel_rfl) (Ev.tmp (Look.of rfl)) (by first | assumption | rfl)) ?_
      refine SK.n rfl rfl (by first | exact ok_store (n := 1) (bb := false) rfl (by kernel_rfl) (Ev.tmp (Look.of rfl)) (Ev.tmp (Look.of rfl)) (Look.of rfl) rfl (by first | exact Nat.le_of_ble_eq_true rfl | assumption | (simp only [cI_len, dI_len, List.length_map, List.length_append, List.length_cons, List.length_nil]; omega) | omega) (by first | assumption | (simp only [updC, cellsOf1, List.set_cons_zero, List.set_cons_succ]; rfl) | rfl)) ?_
      refine SK.nil ⟨by kernel_rfl, ?_⟩
      repeat refine AW.seq ?_
      refine AW.reg (nx' := 1) (by kernel_rfl) ?_
      refine SK.p rfl rfl (ok_move rfl (Ev.tmp (Look.of rfl))) ?_
      refine SK.p rfl rfl (ok_move rfl (Ev.tmp (Look.of rfl))) ?_
      refine SK.p rfl rfl (by first | exact ok_bin rfl (Ev.tmp (Look.of rfl)) (Ev.tmp (Look.of rfl)) (r_rem (by first | assumption | omega) (by first | assumption | rfl)) rfl) ?_
      refine SK.p rfl rfl (ok_assign rfl (Ev.tmp (Look.of rfl))) ?_
      refine SK.nil ⟨by kernel_rfl, ?_⟩
      exact AW.ret ⟨.inr rfl, _, fun b => if b = 0 then 0 else b, (.cons (.tmp (Look.of rfl)) .nil), (by first | rfl | assumption | simp [mapPV, mapE, mapC, pvOf]), (by first | rfl | assumption), (RenG.cons (RenG.base (fun b h => by first | exact absurd h (Nat.not_lt_zero _) | (have h0 : b = 0 := Nat.lt_one_iff.mp h; subst h0; rfl)) (Nat.le_of_ble_eq_true rfl)) rfl rfl (Look.of rfl) (by first | rfl | exact cI_map _ _ _ | assumption) (by first | rfl | exact cI_low _ _ _ | assumption) rfl)⟩
set_option maxHeartbeats 4000000 in
theorem F_DNew (l : List Int) : Fun 9 [.c (slB l)] [] 0 (.e (.c (.ptr 0 0))) (diceG (l.take 300)) 1 := by
  have hmin : (if (300 : Int) < (l.length : Int) then (300 : Int) else (l.length : Int)) = ((l.take 300).length : Int) := by rw [List.length_take]; split <;> omega
  have hle : (l.take 300).length ≤ l.length := by rw [List.length_take]; omega
  have hpp : ((dI .u8 l).drop (0 * 1)).take ((l.take 300).length * 1) = dI .u8 (l.take 300) := by
    rw [Nat.zero_mul, List.drop_zero, Nat.mul_one, dI_take, List.length_take]
    congr 1
    rcases Nat.le_total 300 l.length with h | h
    · rw [Nat.min_eq_left h]
    · rw [Nat.min_eq_right h, List.take_length, List.take_of_length_le h]
  refine Fun.mk (n := 10) Try.func9 rfl rfl (Nat.le_of_ble_eq_true rfl) ?_
  intro cx hcx
  simp only [argSlots, Nat.reduceAdd]
  repeat refine AW.seq ?_
  refine AW.reg (nx' := 0) (by kernel_rfl) ?_
  refine SK.p rfl rfl (ok_assign rfl (Ev.lit rfl)) ?_
  refine SK.nil ⟨by kernel_rfl, ?_⟩
  repeat refine AW.seq ?_
  refine AW.reg (nx' := 1) (by kernel_rfl) ?_
  refine SK.p rfl rfl (ok_move rfl (Ev.tmp (Look.of rfl))) ?_
  refine SK.p rfl rfl (ok_move rfl (Ev.tmp (Look.of rfl))) ?_
  refine SK.p rfl rfl (by first | exact ok_len (ts := #[]) (ty := 0) rfl (by kernel_rfl) (Ev.tmp (Look.of rfl)) len_sl | exact ok_len (ts := #[]) (ty := 0) rfl (by kernel_rfl) (Ev.tmp (Look.of rfl)) len_own | exact ok_len (ts := #[]) (ty := 0) rfl (by kernel_rfl) (Ev.tmp (Look.of rfl)) len_nil) ?_
  refine SK.p rfl rfl (ok_min rfl (Ev.tmp (Look.of rfl)) (Ev.lit rfl) (by first | assumption | exact if_pos (by omega) | exact if_neg (by omega) | rfl)) ?_
  refine SK.p rfl rfl (by first | exact ok_slice_sl (e := 5) (s := 1) (bb := false) rfl (by kernel_rfl) (by kernel_rfl) (Ev.tmp (Look.of rfl)) Bd.no (Bd.yes (Ev.tmp (Look.of rfl)) (by first | rfl | assumption | omega)) Mx.no (by omega) (by omega) (by first | assumption | exact Nat.sub_zero _ | rfl) (by first | assumption | (simp only [Nat.mul_one, Nat.zero_mul, List.drop_zero, dI_take, dI_drop]; rfl) | rfl) | exact ok_slice (e := 5) (s := 1) (bb := false) rfl (by kernel_rfl) (by kernel_rfl) (Ev.tmp (Look.of rfl)) Bd.no (Bd.yes (Ev.tmp (Look.of rfl)) (by first | rfl | assumption | omega)) Mx.no (by omega) (by omega) (by first | assumption | (simp only [Nat.mul_one, Nat.zero_mul, Nat.zero_add]; rfl) | rfl) (by first | assumption | exact Nat.sub_zero _ | rfl) | exact ok_slice_nil (e := 5) (s := 1) (bb := false) rfl (by kernel_rfl) (by kernel_rfl) (Ev.tmp (Look.of rfl)) Bd.no (Bd.yes (Ev.tmp (Look.of rfl)) (by first | rfl | assumption | omega)) Mx.no) ?_
  refine SK.p rfl rfl (ok_build (places := [(0, 1)]) (zs := [.slice none 0 0]) rfl ⟨_, Try.underlying57, fun w => by kernel_rfl⟩ (by kernel_rfl) rfl (EvL.cons (Ev.tmp (Look.of rfl)) EvL.nil) (by first | (simp +decide only [fillC, updC, cellsOf1, List.map_cons, List.map_nil, List.length_cons, List.length_nil, List.set_cons_zero, List.set_cons_succ, List.getElem?_cons_zero, List.getElem?_cons_succ, Nat.zero_add, Nat.add_zero, Nat.reduceAdd, Nat.reduceMul, Nat.reduceLeDiff, Nat.le_refl, and_self, and_true, true_and, if_true, ↓reduceIte]; done) | (simp +decide only [fillC, updC, cellsOf1, List.map_cons, List.map_nil, List.length_cons, List.length_nil, List.set_cons_zero, List.set_cons_succ, List.getElem?_cons_zero, List.getElem?_cons_succ, Nat.zero_add, Nat.add_zero, Nat.reduceAdd, Nat.reduceMul, Nat.reduceLeDiff, Nat.le_refl, and_self, and_true, true_and, if_true, ↓reduceIte]; rfl) | (simp [fillC, updC, cellsOf1]; rfl) | rfl)) ?_
  refine SK.w1 rfl rfl (by first | exact ok_box_agg (nx := 0) rfl (Ev.tmp (Look.of rfl)) | exact ok_box_c (nx := 0) rfl (Ev.tmp (Look.of rfl))) ?_
  refine SK.p rfl rfl (ok_assign rfl (Ev.tmp (Look.of rfl))) ?_
  refine SK.nil ⟨by kernel_rfl, ?_⟩
  exact AW.ret ⟨.inr rfl, _, fun b => if b = 0 then 0 else b, (.cons (.tmp (Look.of rfl)) .nil), (by first | rfl | assumption | simp [mapPV, mapE, mapC, pvOf]), (by first | rfl | assumption), (RenG.cons (RenG.base (fun b h => by first | exact absurd h (Nat.not_lt_zero _) | (have h0 : b = 0 := Nat.lt_one_iff.mp h; subst h0; rfl)) (Nat.le_of_ble_eq_true rfl)) rfl rfl (Look.of rfl) (by first | rfl | exact cI_map _ _ _ | assumption) (by first | rfl | exact cI_low _ _ _ | assumption) rfl)⟩
end Go.Proofs.Ytlelnhapcfjhfaa
