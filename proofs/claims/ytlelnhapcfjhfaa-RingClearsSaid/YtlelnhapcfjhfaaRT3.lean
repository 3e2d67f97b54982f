/- Rings: writing and reading, on both sides. No statement is proved here. -/
import Derived.Test.YtlelnhapcfjhfaaRT2
namespace Go.Proofs.Ytlelnhapcfjhfaa
open Go.ChangeShapes Go.WideShapes Go.ChangeAt Go.RowKit
set_option linter.unusedVariables false
set_option linter.unusedSimpArgs false

abbrev ownI (b : Nat) (l : List Int) : C := .own b 0 l.length 1 true
theorem min_cast (a b k : Nat) (hk : k = min a b) : (if (b : Int) < (a : Int) then (b : Int) else a) = (k : Int) := by subst hk; split <;> omega
theorem F_cutL (ch f t : Nat) (l : List Int) (hft : f ≤ t) (ht : t * ch ≤ l.length) (hn : l.length ≤ 10000000) :
    Fun 32 [.c (slI l), .c (vI ch), .c (vI f), .c (vI t)] [] 0 (.e (.c (slI ((l.drop (f * ch)).take (t * ch - f * ch))))) [] 0 := by
  have h := F_cut ch f t l.length l hft ht hn
  have e : ((l.drop (f * ch)).take (t * ch - f * ch)).length = t * ch - f * ch := by rw [List.length_take, List.length_drop]; omega
  unfold slI
  rw [e]
  exact h
set_option maxHeartbeats 4000000 in
theorem F_joined (l1 l2 : List Int) (h1 : l1.length ≤ 1000000) (h2 : l2.length ≤ 1000000) :
    Fun 31 [.c (slI l1), .c (slI l2)] [] 0 (.e (.c (ownI 0 (l1 ++ l2)))) [(0, some (21, cI .i32 (l1 ++ l2)))] 1 := by
  have hadd : IntKind.i64.wrap ((l1.length : Int) + (l2.length : Int)) = ((l1.length + l2.length : Nat) : Int) := by rw [← Int.natCast_add]; exact IntWalk.i64_in _ (by omega)
  have hc1 : (cI .i32 (List.replicate (l1.length + l2.length) 0)).take 0 ++ ((dI .i32 l1).map C.d).take l1.length ++ (cI .i32 (List.replicate (l1.length + l2.length) 0)).drop (0 + l1.length) = cI .i32 (l1 ++ List.replicate l2.length 0) := by
    rw [← cI_dI, List.take_zero, List.nil_append, Nat.zero_add]
    unfold cI
    rw [← List.map_take, ← List.map_drop, ← List.map_append, List.take_length, List.drop_replicate, Nat.add_sub_cancel_left]
  have hc2 : (cI .i32 (l1 ++ List.replicate l2.length 0)).take l1.length ++ ((dI .i32 l2).map C.d).take l2.length ++ (cI .i32 (l1 ++ List.replicate l2.length 0)).drop (l1.length + l2.length) = cI .i32 (l1 ++ l2) := by
    rw [← cI_dI]
    unfold cI
    rw [← List.map_take, ← List.map_drop, ← List.map_take, ← List.map_append, ← List.map_append, List.take_length, List.take_left, List.drop_of_length_le (by simp), List.append_nil]
  have hkk : l1.length + l2.length - l1.length = l2.length := Nat.add_sub_cancel_left ..
  have hfit : l1.length + l2.length ≤ (cI .i32 (l1 ++ List.replicate l2.length 0)).length := by simp [cI_len]
  have hfit0 : 0 + (l1.length + l2.length) ≤ (cI .i32 (List.replicate (l1.length + l2.length) 0)).length := by simp [cI_len]
  have hlen : (l1 ++ l2).length = l1.length + l2.length := List.length_append ..
  refine Fun.mk (n := 22) Try.func31 rfl rfl (Nat.le_of_ble_eq_true rfl) ?_
  intro cx hcx
  simp only [argSlots, Nat.reduceAdd]
  repeat refine AW.seq ?_
  refine AW.reg (nx' := 0) (by kernel_rfl) ?_
  refine SK.p rfl rfl (ok_assign rfl (Ev.lit rfl)) ?_
  refine SK.nil ⟨by kernel_rfl, ?_⟩
  repeat refine AW.seq ?_
  refine AW.reg (nx' := 1) (by kernel_rfl) ?_
  refine SK.p rfl rfl (ok_move rfl (Ev.tmp (Look.of rfl))) ?_
  refine SK.p rfl rfl (by first | exact ok_len (ts := #[]) (ty := 0) rfl (by kernel_rfl) (Ev.tmp (Look.of rfl)) len_sl | exact ok_len (ts := #[]) (ty := 0) rfl (by kernel_rfl) (Ev.tmp (Look.of rfl)) len_own | exact ok_len (ts := #[]) (ty := 0) rfl (by kernel_rfl) (Ev.tmp (Look.of rfl)) len_nil) ?_
  refine SK.p rfl rfl (ok_move rfl (Ev.tmp (Look.of rfl))) ?_
  refine SK.p rfl rfl (by first | exact ok_len (ts := #[]) (ty := 0) rfl (by kernel_rfl) (Ev.tmp (Look.of rfl)) len_sl | exact ok_len (ts := #[]) (ty := 0) rfl (by kernel_rfl) (Ev.tmp (Look.of rfl)) len_own | exact ok_len (ts := #[]) (ty := 0) rfl (by kernel_rfl) (Ev.tmp (Look.of rfl)) len_nil) ?_
  refine SK.p rfl rfl (by first | exact ok_bin rfl (Ev.tmp (Look.of rfl)) (Ev.tmp (Look.of rfl)) (r_add (by first | assumption | exact IntWalk.i64_in _ (by omega) | rfl)) rfl) ?_
  refine SK.w1 rfl rfl (ok_make' (nx := 0) (e := 21) (z := (.int .i32 0)) (bs := 4) rfl (by kernel_rfl) (by kernel_rfl) rfl (Ev.tmp (Look.of rfl)) (Ev.tmp (Look.of rfl)) (by first | rfl | assumption | omega) (by first | rfl | assumption | omega) (by omega) (by first | assumption | (unfold maxLen; omega)) (by omega) (by first | exact cI_rep _ _ _ | rfl)) ?_
  refine SK.p rfl rfl (ok_assign rfl (Ev.tmp (Look.of rfl))) ?_
  refine SK.nil ⟨by kernel_rfl, ?_⟩
  repeat refine AW.seq ?_
  refine AW.reg (nx' := 1) (by kernel_rfl) ?_
  refine SK.p rfl rfl (ok_move rfl (Ev.tmp (Look.of rfl))) ?_
  refine SK.p rfl rfl (ok_move rfl (Ev.tmp (Look.of rfl))) ?_
  refine SK.w rfl rfl (ok_copy (ty := 0) (e := 21) rfl (by kernel_rfl) (by kernel_rfl) (Ev.tmp (Look.of rfl)) (Look.of rfl) (by first | exact Nat.le_of_ble_eq_true rfl | assumption | (simp only [cI_len, dI_len, List.length_map, List.length_append, List.length_cons, List.length_nil]; omega) | omega) (by first | exact Src.all (Ev.tmp (Look.of rfl)) (Look.of rfl) (by first | rfl | assumption | (simp only [cI_len, dI_len, List.length_map, List.length_append, List.length_cons, List.length_nil]; omega)) | exact Src.own (Ev.tmp (Look.of rfl)) (Look.of rfl) (by first | assumption | (simp only [Nat.mul_one, cI_part]; rfl) | rfl) (by first | rfl | assumption | (simp only [cI_len, dI_len, List.length_map, List.length_append, List.length_cons, List.length_nil]; omega)) | exact Src.sl (Ev.tmp (Look.of rfl)) (by first | rfl | assumption | (simp only [cI_len, dI_len, List.length_map, List.length_append, List.length_cons, List.length_nil]; omega)) | exact Src.nil (Ev.tmp (Look.of rfl))) (by first | assumption | exact Nat.min_eq_left (by omega) | exact Nat.min_eq_right (by omega) | rfl) (by first | assumption | rfl)) (by simp only [List.cons_append, List.nil_append]; rfl) ?_
  refine SK.nil ⟨by kernel_rfl, ?_⟩
  repeat refine AW.seq ?_
  refine AW.reg (nx' := 1) (by kernel_rfl) ?_
  refine SK.p rfl rfl (ok_move rfl (Ev.tmp (Look.of rfl))) ?_
  refine SK.p rfl rfl (ok_move rfl (Ev.tmp (Look.of rfl))) ?_
  refine SK.p rfl rfl (by first | exact ok_len (ts := #[]) (ty := 0) rfl (by kernel_rfl) (Ev.tmp (Look.of rfl)) len_sl | exact ok_len (ts := #[]) (ty := 0) rfl (by kernel_rfl) (Ev.tmp (Look.of rfl)) len_own | exact ok_len (ts := #[]) (ty := 0) rfl (by kernel_rfl) (Ev.tmp (Look.of rfl)) len_nil) ?_
  refine SK.p rfl rfl (by first | exact ok_slice_sl (e := 21) (s := 1) (bb := false) rfl (by kernel_rfl) (by kernel_rfl) (Ev.tmp (Look.of rfl)) (Bd.yes (Ev.tmp (Look.of rfl)) (by first | rfl | assumption | omega)) Bd.no Mx.no (by omega) (by omega) (by first | assumption | exact Nat.sub_zero _ | rfl) (by first | assumption | (simp only [Nat.mul_one, Nat.zero_mul, List.drop_zero, dI_take, dI_drop]; rfl) | rfl) | exact ok_slice (e := 21) (s := 1) (bb := false) rfl (by kernel_rfl) (by kernel_rfl) (Ev.tmp (Look.of rfl)) (Bd.yes (Ev.tmp (Look.of rfl)) (by first | rfl | assumption | omega)) Bd.no Mx.no (by omega) (by omega) (by first | assumption | (simp only [Nat.mul_one, Nat.zero_mul, Nat.zero_add]; rfl) | rfl) (by first | assumption | exact Nat.sub_zero _ | rfl) | exact ok_slice_nil (e := 21) (s := 1) (bb := false) rfl (by kernel_rfl) (by kernel_rfl) (Ev.tmp (Look.of rfl)) (Bd.yes (Ev.tmp (Look.of rfl)) (by first | rfl | assumption | omega)) Bd.no Mx.no) ?_
  refine SK.p rfl rfl (ok_move rfl (Ev.tmp (Look.of rfl))) ?_
  refine SK.w rfl rfl (ok_copy (ty := 0) (e := 21) rfl (by kernel_rfl) (by kernel_rfl) (Ev.tmp (Look.of rfl)) (Look.of rfl) (by first | exact Nat.le_of_ble_eq_true rfl | assumption | (simp only [cI_len, dI_len, List.length_map, List.length_append, List.length_cons, List.length_nil]; omega) | omega) (by first | exact Src.all (Ev.tmp (Look.of rfl)) (Look.of rfl) (by first | rfl | assumption | (simp only [cI_len, dI_len, List.length_map, List.length_append, List.length_cons, List.length_nil]; omega)) | exact Src.own (Ev.tmp (Look.of rfl)) (Look.of rfl) (by first | assumption | (simp only [Nat.mul_one, cI_part]; rfl) | rfl) (by first | rfl | assumption | (simp only [cI_len, dI_len, List.length_map, List.length_append, List.length_cons, List.length_nil]; omega)) | exact Src.sl (Ev.tmp (Look.of rfl)) (by first | rfl | assumption | (simp only [cI_len, dI_len, List.length_map, List.length_append, List.length_cons, List.length_nil]; omega)) | exact Src.nil (Ev.tmp (Look.of rfl))) (by first | assumption | exact Nat.min_eq_left (by omega) | exact Nat.min_eq_right (by omega) | rfl) (by first | assumption | rfl)) (by simp only [List.cons_append, List.nil_append]; rfl) ?_
  refine SK.nil ⟨by kernel_rfl, ?_⟩
  repeat refine AW.seq ?_
  refine AW.reg (nx' := 1) (by kernel_rfl) ?_
  refine SK.p rfl rfl (ok_move rfl (Ev.tmp (Look.of rfl))) ?_
  refine SK.p rfl rfl (ok_assign rfl (Ev.tmp (Look.of rfl))) ?_
  refine SK.nil ⟨by kernel_rfl, ?_⟩
  exact AW.ret ⟨.inr rfl, _, fun b => if b = 0 then 0 else b, (.cons (.tmp (Look.of rfl)) .nil), (by first | rfl | assumption | (simp only [mapPV, mapE, mapC, pvOf, List.map_cons, List.map_nil, hlen]; done) | (simp only [mapPV, mapE, mapC, pvOf, List.map_cons, List.map_nil, hlen]; rfl) | simp [mapPV, mapE, mapC, pvOf]), (by first | rfl | assumption), (RenG.cons (RenG.base (fun b h => by first | exact absurd h (Nat.not_lt_zero _) | (have h0 : b = 0 := Nat.lt_one_iff.mp h; subst h0; rfl)) (Nat.le_of_ble_eq_true rfl)) rfl rfl (Look.of rfl) (by first | rfl | exact cI_map _ _ _ | assumption) (by first | rfl | exact cI_low _ _ _ | assumption) rfl)⟩
set_option maxHeartbeats 4000000 in
theorem F_Silence (ch f : Nat) (h : 1 ≤ ch ∧ ch ≤ 8) (h2 : f ≤ 65536) :
    Fun 35 [.c (vI ch), .c (vI f)] [] 0 (.tup [blkA ch (ownI 0 (List.replicate (ch * f) 0)), .c (vI 0)]) [(0, some (21, cI .i32 (List.replicate (ch * f) 0)))] 1 := by
  have hbig : ch * f ≤ 524288 := Nat.le_trans (Nat.mul_le_mul h.2 h2) (by omega)
  have hmul : IntKind.i64.wrap ((ch : Int) * (f : Int)) = ((ch * f : Nat) : Int) := by rw [← Int.natCast_mul]; exact IntWalk.i64_in _ (by omega)
  have hlen : (List.replicate (ch * f) (0 : Int)).length = ch * f := List.length_replicate ..
  refine Fun.mk (n := 27) Try.func35 rfl rfl (Nat.le_of_ble_eq_true rfl) ?_
  intro cx hcx
  simp only [argSlots, Nat.reduceAdd]
  repeat refine AW.seq ?_
  refine AW.reg (nx' := 1) (by kernel_rfl) ?_
  refine SK.w1 rfl rfl (ok_alloc' (nx := 0) (zs := [.int .i64 0, .slice none 0 0]) (cs := [LC (.int .i64 0), LC (.slice none 0 0)]) rfl (by kernel_rfl) rfl rfl) ?_
  refine SK.p rfl rfl (ok_assign rfl (Ev.lit rfl)) ?_
  refine SK.nil ⟨by kernel_rfl, ?_⟩
  repeat refine AW.seq ?_
  refine AW.reg (nx' := 1) (by kernel_rfl) ?_
  refine SK.p rfl rfl (ok_move rfl (Ev.tmp (Look.of rfl))) ?_
  refine SK.p rfl rfl (by first | exact ok_bin rfl (Ev.tmp (Look.of rfl)) (Ev.lit rfl) (r_lss (by first | assumption | exact decide_eq_true (by omega) | exact decide_eq_false (by omega) | rfl)) rfl) ?_
  refine SK.p rfl rfl (ok_move rfl (Ev.tmp (Look.of rfl))) ?_
  first | refine SK.gp rfl rfl rfl (Look.of rfl) rfl (ok_move rfl (Ev.tmp (Look.of rfl))) ?_ | refine SK.gn rfl rfl rfl (Look.of rfl) rfl rfl ?_
  first | refine SK.gp rfl rfl rfl (Look.of rfl) rfl (by first | exact ok_bin rfl (Ev.tmp (Look.of rfl)) (Ev.lit rfl) (r_gtr (by first | assumption | exact decide_eq_true (by omega) | exact decide_eq_false (by omega) | rfl)) rfl) ?_ | refine SK.gn rfl rfl rfl (Look.of rfl) rfl rfl ?_
  refine SK.p rfl rfl (by first | exact ok_pick_t rfl (Ev.tmp (Look.of rfl)) (Ev.lit rfl) | exact ok_pick_f rfl (Ev.tmp (Look.of rfl)) (Ev.tmp (Look.of rfl)) | exact ok_pick rfl (Ev.tmp (Look.of rfl)) (Ev.lit rfl) (Ev.tmp (Look.of rfl))) ?_
  refine SK.p rfl rfl (ok_move rfl (Ev.tmp (Look.of rfl))) ?_
  first | refine SK.gp rfl rfl rfl (Look.of rfl) rfl (ok_move rfl (Ev.tmp (Look.of rfl))) ?_ | refine SK.gn rfl rfl rfl (Look.of rfl) rfl rfl ?_
  first | refine SK.gp rfl rfl rfl (Look.of rfl) rfl (by first | exact ok_bin rfl (Ev.tmp (Look.of rfl)) (Ev.lit rfl) (r_lss (by first | assumption | exact decide_eq_true (by omega) | exact decide_eq_false (by omega) | rfl)) rfl) ?_ | refine SK.gn rfl rfl rfl (Look.of rfl) rfl rfl ?_
  refine SK.p rfl rfl (by first | exact ok_pick_t rfl (Ev.tmp (Look.of rfl)) (Ev.lit rfl) | exact ok_pick_f rfl (Ev.tmp (Look.of rfl)) (Ev.tmp (Look.of rfl)) | exact ok_pick rfl (Ev.tmp (Look.of rfl)) (Ev.lit rfl) (Ev.tmp (Look.of rfl))) ?_
  refine SK.p rfl rfl (ok_move rfl (Ev.tmp (Look.of rfl))) ?_
  first | refine SK.gp rfl rfl rfl (Look.of rfl) rfl (ok_move rfl (Ev.tmp (Look.of rfl))) ?_ | refine SK.gn rfl rfl rfl (Look.of rfl) rfl rfl ?_
  first | refine SK.gp rfl rfl rfl (Look.of rfl) rfl (by first | exact ok_bin rfl (Ev.tmp (Look.of rfl)) (Ev.lit rfl) (r_gtr (by first | assumption | exact decide_eq_true (by omega) | exact decide_eq_false (by omega) | rfl)) rfl) ?_ | refine SK.gn rfl rfl rfl (Look.of rfl) rfl rfl ?_
  refine SK.p rfl rfl (by first | exact ok_pick_t rfl (Ev.tmp (Look.of rfl)) (Ev.lit rfl) | exact ok_pick_f rfl (Ev.tmp (Look.of rfl)) (Ev.tmp (Look.of rfl)) | exact ok_pick rfl (Ev.tmp (Look.of rfl)) (Ev.lit rfl) (Ev.tmp (Look.of rfl))) ?_
  refine SK.nil ⟨by kernel_rfl, ?_⟩
  repeat refine AW.seq ?_
  refine AW.cond_f (.tmp (Look.of rfl)) ?_
  repeat refine AW.seq ?_
  refine AW.skip ?_
  repeat refine AW.seq ?_
  refine AW.reg (nx' := 2) (by kernel_rfl) ?_
  refine SK.p rfl rfl (ok_move rfl (Ev.tmp (Look.of rfl))) ?_
  refine SK.p rfl rfl (ok_move rfl (Ev.tmp (Look.of rfl))) ?_
  refine SK.p rfl rfl (ok_move rfl (Ev.tmp (Look.of rfl))) ?_
  refine SK.p rfl rfl (by first | exact ok_bin rfl (Ev.tmp (Look.of rfl)) (Ev.tmp (Look.of rfl)) (r_mul (by first | assumption | exact IntWalk.i64_in _ (by omega) | rfl)) rfl) ?_
  refine SK.w1 rfl rfl (ok_make' (nx := 1) (e := 21) (z := (.int .i32 0)) (bs := 4) rfl (by kernel_rfl) (by kernel_rfl) rfl (Ev.tmp (Look.of rfl)) (Ev.tmp (Look.of rfl)) (by first | rfl | assumption | omega) (by first | rfl | assumption | omega) (by omega) (by first | assumption | (unfold maxLen; omega)) (by omega) (by first | exact cI_rep _ _ _ | rfl)) ?_
  refine SK.p rfl rfl (ok_build (places := [(0, 1), (1, 1)]) (zs := [.int .i64 0, .slice none 0 0]) rfl ⟨_, Try.underlying26, fun w => by kernel_rfl⟩ (by kernel_rfl) rfl (EvL.cons (Ev.tmp (Look.of rfl)) (EvL.cons (Ev.tmp (Look.of rfl)) EvL.nil)) (by first | (simp +decide only [fillC, updC, cellsOf1, List.map_cons, List.map_nil, List.length_cons, List.length_nil, List.set_cons_zero, List.set_cons_succ, List.getElem?_cons_zero, List.getElem?_cons_succ, Nat.zero_add, Nat.add_zero, Nat.reduceAdd, Nat.reduceMul, Nat.reduceLeDiff, Nat.le_refl, and_self, and_true, true_and, if_true, ↓reduceIte]; done) | (simp +decide only [fillC, updC, cellsOf1, List.map_cons, List.map_nil, List.length_cons, List.length_nil, List.set_cons_zero, List.set_cons_succ, List.getElem?_cons_zero, List.getElem?_cons_succ, Nat.zero_add, Nat.add_zero, Nat.reduceAdd, Nat.reduceMul, Nat.reduceLeDiff, Nat.le_refl, and_self, and_true, true_and, if_true, ↓reduceIte]; rfl) | (simp [fillC, updC, cellsOf1]; rfl) | rfl)) ?_
  refine SK.n rfl rfl (by first | exact ok_store_all (n := 2) rfl (by kernel_rfl) (Ev.tmp (Look.of rfl)) (Ev.tmp (Look.of rfl)) (Look.of rfl) rfl rfl | exact ok_store (n := 2) (bb := true) rfl (by kernel_rfl) (Ev.tmp (Look.of rfl)) (Ev.tmp (Look.of rfl)) (Look.of rfl) rfl (by first | exact Nat.le_of_ble_eq_true rfl | assumption | (simp only [cI_len, dI_len, List.length_map, List.length_append, List.length_cons, List.length_nil]; omega) | omega) (by first | assumption | (simp only [updC, cellsOf1, List.set_cons_zero, List.set_cons_succ]; rfl) | rfl)) ?_
  refine SK.p rfl rfl (ok_assign rfl (Ev.lit rfl)) ?_
  refine SK.nil ⟨by kernel_rfl, ?_⟩
  exact AW.ret ⟨.inr rfl, _, fun b => if b = 0 then 1 else b, (.cons (.agg (n := 2) (Look.of rfl) (by kernel_rfl) (Look.of rfl) rfl rfl) (.cons (.tmp (Look.of rfl)) .nil)), (by first | rfl | assumption | (simp only [mapPV, mapE, mapC, pvOf, List.map_cons, List.map_nil, hlen]; done) | (simp only [mapPV, mapE, mapC, pvOf, List.map_cons, List.map_nil, hlen]; rfl) | simp [mapPV, mapE, mapC, pvOf]), (by first | rfl | assumption), (RenG.cons (RenG.base (fun b h => by first | exact absurd h (Nat.not_lt_zero _) | (have h0 : b = 0 := Nat.lt_one_iff.mp h; subst h0; rfl)) (Nat.le_of_ble_eq_true rfl)) rfl rfl (Look.of rfl) (by first | rfl | exact cI_map _ _ _ | assumption) (by first | rfl | exact cI_low _ _ _ | assumption) rfl)⟩
set_option maxHeartbeats 4000000 in
theorem F_Join (c1 c2 : Int) (l1 l2 : List Int) (h1 : l1.length ≤ 1000000) (h2 : l2.length ≤ 1000000) :
    Fun 27 [blkA c1 (slI l1), blkA c2 (slI l2)] [] 0 (.e (blkA c1 (ownI 0 (l1 ++ l2)))) [(0, some (21, cI .i32 (l1 ++ l2)))] 1 := by
  have hlen : (l1 ++ l2).length = l1.length + l2.length := List.length_append ..
  refine Fun.mk (n := 14) Try.func27 rfl rfl (Nat.le_of_ble_eq_true rfl) ?_
  intro cx hcx
  simp only [argSlots, Nat.reduceAdd]
  repeat refine AW.seq ?_
  refine AW.reg (nx' := 3) (by kernel_rfl) ?_
  refine SK.w1 rfl rfl (by first | exact ok_box_agg (nx := 0) rfl (Ev.tmp (Look.of rfl)) | exact ok_box_c (nx := 0) rfl (Ev.tmp (Look.of rfl))) ?_
  refine SK.w1 rfl rfl (by first | exact ok_box_agg (nx := 1) rfl (Ev.tmp (Look.of rfl)) | exact ok_box_c (nx := 1) rfl (Ev.tmp (Look.of rfl))) ?_
  refine SK.w1 rfl rfl (ok_alloc' (nx := 2) (zs := [.int .i64 0, .slice none 0 0]) (cs := [LC (.int .i64 0), LC (.slice none 0 0)]) rfl (by kernel_rfl) rfl rfl) ?_
  refine SK.nil ⟨by kernel_rfl, ?_⟩
  repeat refine AW.seq ?_
  refine AW.reg (nx' := 5) (by kernel_rfl) ?_
  refine SK.p rfl rfl (by first | exact ok_fieldAddr (k := 0) (n := 0) (bb := false) rfl (by kernel_rfl) (Ev.tmp (Look.of rfl)) (by first | exact Nat.zero_add _ | rfl) | exact ok_fieldAddr_rp (k := 0) (n := 0) (bb := false) rfl (by kernel_rfl) (Ev.tmp (Look.of rfl)) (by first | assumption | rfl)) ?_
  refine SK.p rfl rfl (by first | exact ok_load rfl (by kernel_rfl) (Ev.tmp (Look.of rfl)) (Look.of rfl) (by first | rfl | assumption) | exact ok_load_rp rfl (by kernel_rfl) (Ev.tmp (Look.of rfl)) (by first | rfl | assumption)) ?_
  refine SK.p rfl rfl (by first | exact ok_fieldAddr (k := 1) (n := 0) (bb := false) rfl (by kernel_rfl) (Ev.tmp (Look.of rfl)) (by first | exact Nat.zero_add _ | rfl) | exact ok_fieldAddr_rp (k := 1) (n := 0) (bb := false) rfl (by kernel_rfl) (Ev.tmp (Look.of rfl)) (by first | assumption | rfl)) ?_
  refine SK.p rfl rfl (by first | exact ok_load rfl (by kernel_rfl) (Ev.tmp (Look.of rfl)) (Look.of rfl) (by first | rfl | assumption) | exact ok_load_rp rfl (by kernel_rfl) (Ev.tmp (Look.of rfl)) (by first | rfl | assumption)) ?_
  first | refine SK.w1 rfl rfl (ok_append_nil' (nx := 3) (e := 21) (z := (.int .i32 0)) (s := 1) (bs := 4) rfl (by kernel_rfl) (by kernel_rfl) rfl (by decide) (Ev.lit rfl) (by first | exact Src.all (Ev.tmp (Look.of rfl)) (Look.of rfl) (by first | rfl | assumption | (simp only [cI_len, dI_len, List.length_map, List.length_append, List.length_cons, List.length_nil]; omega)) | exact Src.own (Ev.tmp (Look.of rfl)) (Look.of rfl) (by first | assumption | (simp only [Nat.mul_one, cI_part]; rfl) | rfl) (by first | rfl | assumption | (simp only [cI_len, dI_len, List.length_map, List.length_append, List.length_cons, List.length_nil]; omega)) | exact Src.sl (Ev.tmp (Look.of rfl)) (by first | rfl | assumption | (simp only [cI_len, dI_len, List.length_map, List.length_append, List.length_cons, List.length_nil]; omega)) | exact Src.nil (Ev.tmp (Look.of rfl))) (by first | assumption | (unfold maxLen; omega)) (by omega) (by first | assumption | (simp only [← cI_dI, cI_app]; rfl) | rfl)) ?_ | refine SK.w2 rfl rfl (ok_append' (nx := 3) (e := 21) (z := (.int .i32 0)) (s := 1) (bs := 4) rfl (by kernel_rfl) (by kernel_rfl) rfl (by decide) (Ev.lit rfl) (Look.of rfl) (by first | rfl | assumption | (simp only [cI_len, dI_len, List.length_map, List.length_append, List.length_cons, List.length_nil]; omega)) (by first | exact Src.all (Ev.tmp (Look.of rfl)) (Look.of rfl) (by first | rfl | assumption | (simp only [cI_len, dI_len, List.length_map, List.length_append, List.length_cons, List.length_nil]; omega)) | exact Src.own (Ev.tmp (Look.of rfl)) (Look.of rfl) (by first | assumption | (simp only [Nat.mul_one, cI_part]; rfl) | rfl) (by first | rfl | assumption | (simp only [cI_len, dI_len, List.length_map, List.length_append, List.length_cons, List.length_nil]; omega)) | exact Src.sl (Ev.tmp (Look.of rfl)) (by first | rfl | assumption | (simp only [cI_len, dI_len, List.length_map, List.length_append, List.length_cons, List.length_nil]; omega)) | exact Src.nil (Ev.tmp (Look.of rfl))) (by first | assumption | (unfold maxLen; omega)) (by omega) (by first | assumption | (simp only [← cI_dI, cI_app]; rfl) | rfl) (by first | assumption | rfl)) ?_
  refine SK.p rfl rfl (by first | exact ok_fieldAddr (k := 1) (n := 0) (bb := false) rfl (by kernel_rfl) (Ev.tmp (Look.of rfl)) (by first | exact Nat.zero_add _ | rfl) | exact ok_fieldAddr_rp (k := 1) (n := 0) (bb := false) rfl (by kernel_rfl) (Ev.tmp (Look.of rfl)) (by first | assumption | rfl)) ?_
  refine SK.p rfl rfl (by first | exact ok_load rfl (by kernel_rfl) (Ev.tmp (Look.of rfl)) (Look.of rfl) (by first | rfl | assumption) | exact ok_load_rp rfl (by kernel_rfl) (Ev.tmp (Look.of rfl)) (by first | rfl | assumption)) ?_
  first | refine SK.w1 rfl rfl (ok_append_nil' (nx := 4) (e := 21) (z := (.int .i32 0)) (s := 1) (bs := 4) rfl (by kernel_rfl) (by kernel_rfl) rfl (by decide) (Ev.tmp (Look.of rfl)) (by first | exact Src.all (Ev.tmp (Look.of rfl)) (Look.of rfl) (by first | rfl | assumption | (simp only [cI_len, dI_len, List.length_map, List.length_append, List.length_cons, List.length_nil]; omega)) | exact Src.own (Ev.tmp (Look.of rfl)) (Look.of rfl) (by first | assumption | (simp only [Nat.mul_one, cI_part]; rfl) | rfl) (by first | rfl | assumption | (simp only [cI_len, dI_len, List.length_map, List.length_append, List.length_cons, List.length_nil]; omega)) | exact Src.sl (Ev.tmp (Look.of rfl)) (by first | rfl | assumption | (simp only [cI_len, dI_len, List.length_map, List.length_append, List.length_cons, List.length_nil]; omega)) | exact Src.nil (Ev.tmp (Look.of rfl))) (by first | assumption | (unfold maxLen; omega)) (by omega) (by first | assumption | (simp only [← cI_dI, cI_app]; rfl) | rfl)) ?_ | refine SK.w2 rfl rfl (ok_append' (nx := 4) (e := 21) (z := (.int .i32 0)) (s := 1) (bs := 4) rfl (by kernel_rfl) (by kernel_rfl) rfl (by decide) (Ev.tmp (Look.of rfl)) (Look.of rfl) (by first | rfl | assumption | (simp only [cI_len, dI_len, List.length_map, List.length_append, List.length_cons, List.length_nil]; omega)) (by first | exact Src.all (Ev.tmp (Look.of rfl)) (Look.of rfl) (by first | rfl | assumption | (simp only [cI_len, dI_len, List.length_map, List.length_append, List.length_cons, List.length_nil]; omega)) | exact Src.own (Ev.tmp (Look.of rfl)) (Look.of rfl) (by first | assumption | (simp only [Nat.mul_one, cI_part]; rfl) | rfl) (by first | rfl | assumption | (simp only [cI_len, dI_len, List.length_map, List.length_append, List.length_cons, List.length_nil]; omega)) | exact Src.sl (Ev.tmp (Look.of rfl)) (by first | rfl | assumption | (simp only [cI_len, dI_len, List.length_map, List.length_append, List.length_cons, List.length_nil]; omega)) | exact Src.nil (Ev.tmp (Look.of rfl))) (by first | assumption | (unfold maxLen; omega)) (by omega) (by first | assumption | (simp only [← cI_dI, cI_app]; rfl) | rfl) (by first | assumption | rfl)) ?_
  refine SK.p rfl rfl (ok_build (places := [(0, 1), (1, 1)]) (zs := [.int .i64 0, .slice none 0 0]) rfl ⟨_, Try.underlying26, fun w => by kernel_rfl⟩ (by kernel_rfl) rfl (EvL.cons (Ev.tmp (Look.of rfl)) (EvL.cons (Ev.tmp (Look.of rfl)) EvL.nil)) (by first | (simp +decide only [fillC, updC, cellsOf1, List.map_cons, List.map_nil, List.length_cons, List.length_nil, List.set_cons_zero, List.set_cons_succ, List.getElem?_cons_zero, List.getElem?_cons_succ, Nat.zero_add, Nat.add_zero, Nat.reduceAdd, Nat.reduceMul, Nat.reduceLeDiff, Nat.le_refl, and_self, and_true, true_and, if_true, ↓reduceIte]; done) | (simp +decide only [fillC, updC, cellsOf1, List.map_cons, List.map_nil, List.length_cons, List.length_nil, List.set_cons_zero, List.set_cons_succ, List.getElem?_cons_zero, List.getElem?_cons_succ, Nat.zero_add, Nat.add_zero, Nat.reduceAdd, Nat.reduceMul, Nat.reduceLeDiff, Nat.le_refl, and_self, and_true, true_and, if_true, ↓reduceIte]; rfl) | (simp [fillC, updC, cellsOf1]; rfl) | rfl)) ?_
  refine SK.n rfl rfl (by first | exact ok_store_all (n := 2) rfl (by kernel_rfl) (Ev.tmp (Look.of rfl)) (Ev.tmp (Look.of rfl)) (Look.of rfl) rfl rfl | exact ok_store (n := 2) (bb := true) rfl (by kernel_rfl) (Ev.tmp (Look.of rfl)) (Ev.tmp (Look.of rfl)) (Look.of rfl) rfl (by first | exact Nat.le_of_ble_eq_true rfl | assumption | (simp only [cI_len, dI_len, List.length_map, List.length_append, List.length_cons, List.length_nil]; omega) | omega) (by first | assumption | (simp only [updC, cellsOf1, List.set_cons_zero, List.set_cons_succ]; rfl) | rfl)) ?_
  refine SK.nil ⟨by kernel_rfl, ?_⟩
  exact AW.ret ⟨.inr rfl, _, fun b => if b = 0 then 4 else b, (.cons (.agg (n := 2) (Look.of rfl) (by kernel_rfl) (Look.of rfl) rfl rfl) .nil), (by first | rfl | assumption | (simp only [mapPV, mapE, mapC, pvOf, List.map_cons, List.map_nil, hlen]; done) | (simp only [mapPV, mapE, mapC, pvOf, List.map_cons, List.map_nil, hlen]; rfl) | simp [mapPV, mapE, mapC, pvOf]), (by first | rfl | assumption), (RenG.cons (RenG.base (fun b h => by first | exact absurd h (Nat.not_lt_zero _) | (have h0 : b = 0 := Nat.lt_one_iff.mp h; subst h0; rfl)) (Nat.le_of_ble_eq_true rfl)) rfl rfl (Look.of rfl) (by first | rfl | exact cI_map _ _ _ | assumption) (by first | rfl | exact cI_low _ _ _ | assumption) rfl)⟩
set_option maxHeartbeats 4000000 in
theorem F_SameData (l : List Int) (h : l.length ≤ 10000000) : Fun 34 [.c (slI l), .c (slI l)] [] 0 (LV (.bool true)) [] 0 := by
  refine Fun.mk (n := 26) Try.func34 rfl rfl (Nat.le_of_ble_eq_true rfl) ?_
  intro cx hcx
  simp only [argSlots, Nat.reduceAdd]
  repeat refine AW.seq ?_
  refine AW.reg (nx' := 0) (by kernel_rfl) ?_
  refine SK.p rfl rfl (ok_assign rfl (Ev.lit rfl)) ?_
  refine SK.nil ⟨by kernel_rfl, ?_⟩
  repeat refine AW.seq ?_
  refine AW.reg (nx' := 0) (by kernel_rfl) ?_
  refine SK.p rfl rfl (ok_move rfl (Ev.tmp (Look.of rfl))) ?_
  refine SK.p rfl rfl (by first | exact ok_len (ts := #[]) (ty := 0) rfl (by kernel_rfl) (Ev.tmp (Look.of rfl)) len_sl | exact ok_len (ts := #[]) (ty := 0) rfl (by kernel_rfl) (Ev.tmp (Look.of rfl)) len_own | exact ok_len (ts := #[]) (ty := 0) rfl (by kernel_rfl) (Ev.tmp (Look.of rfl)) len_nil) ?_
  refine SK.p rfl rfl (ok_move rfl (Ev.tmp (Look.of rfl))) ?_
  refine SK.p rfl rfl (by first | exact ok_len (ts := #[]) (ty := 0) rfl (by kernel_rfl) (Ev.tmp (Look.of rfl)) len_sl | exact ok_len (ts := #[]) (ty := 0) rfl (by kernel_rfl) (Ev.tmp (Look.of rfl)) len_own | exact ok_len (ts := #[]) (ty := 0) rfl (by kernel_rfl) (Ev.tmp (Look.of rfl)) len_nil) ?_
  refine SK.p rfl rfl (by first | exact ok_bin rfl (Ev.tmp (Look.of rfl)) (Ev.tmp (Look.of rfl)) (r_neq (by first | assumption | exact decide_eq_true (by omega) | exact decide_eq_false (by omega) | rfl)) rfl | exact ok_bin rfl (Ev.tmp (Look.of rfl)) (Ev.tmp (Look.of rfl)) (r_bneq (by kernel_rfl) rfl) rfl) ?_
  refine SK.nil ⟨by kernel_rfl, ?_⟩
  repeat refine AW.seq ?_
  refine AW.cond_f (.tmp (Look.of rfl)) ?_
  repeat refine AW.seq ?_
  refine AW.skip ?_
  repeat refine AW.seq ?_
  refine AW.reg (nx' := 0) (by kernel_rfl) ?_
  refine SK.p rfl rfl (ok_move rfl (Ev.tmp (Look.of rfl))) ?_
  refine SK.p rfl rfl (by first | exact ok_len (ts := #[]) (ty := 0) rfl (by kernel_rfl) (Ev.tmp (Look.of rfl)) len_sl | exact ok_len (ts := #[]) (ty := 0) rfl (by kernel_rfl) (Ev.tmp (Look.of rfl)) len_own | exact ok_len (ts := #[]) (ty := 0) rfl (by kernel_rfl) (Ev.tmp (Look.of rfl)) len_nil) ?_
  refine SK.p rfl rfl (ok_move rfl (Ev.lit rfl)) ?_
  refine SK.nil ⟨by kernel_rfl, ?_⟩
  repeat refine AW.seq ?_
  refine AW.block ?_
  refine AW.loop (α := {k : Nat // k ≤ l.length}) 0 hcx (fun k => ⟨[(0, .e (.c (slI l))), (1, .e (.c (slI l))), (12, LV (.int .i64 (l.length : Nat))), (13, LV (.int .i64 (k.1 : Nat)))], [], 0⟩) (fun k => l.length - k.1) ⟨0, by omega⟩ ?_ ?_
  · skip
    exact ⟨fun b => b, (by repeat' (first | exact trivial | refine And.intro (And.intro (by first | rfl | assumption) ⟨_, (Look.of rfl), (by first | rfl | assumption | (simp [mapPV, mapE, mapC] <;> omega))⟩) ?_)), (by repeat' (first | exact RenG.base (fun b h => by first | exact absurd h (Nat.not_lt_zero _) | (have h0 : b = 0 := Nat.lt_one_iff.mp h; subst h0; rfl)) (Nat.le_of_ble_eq_true rfl) | refine RenG.cons ?_ rfl rfl (Look.of rfl) (by first | rfl | exact cI_map _ _ _ | assumption) (by first | rfl | exact cI_low _ _ _ | assumption) rfl))⟩
  intro ⟨k, hk⟩
  dsimp only
  by_cases hlt : k < l.length
  · have hx := dI_at .i32 l k hlt
    repeat refine AW.seq ?_
    refine AW.reg (nx' := 0) (by kernel_rfl) ?_
    refine SK.p rfl rfl (by first | exact ok_bin rfl (Ev.tmp (Look.of rfl)) (Ev.tmp (Look.of rfl)) (r_lss (by first | assumption | exact decide_eq_true (by omega) | exact decide_eq_false (by omega) | rfl)) rfl) ?_
    refine SK.nil ⟨by kernel_rfl, ?_⟩
    repeat refine AW.seq ?_
    refine AW.cond_t (.tmp (Look.of rfl)) ?_
    repeat refine AW.seq ?_
    refine AW.skip ?_
    repeat refine AW.seq ?_
    refine AW.block ?_
    repeat refine AW.seq ?_
    refine AW.reg (nx' := 0) (by kernel_rfl) ?_
    refine SK.p rfl rfl (ok_move rfl (Ev.tmp (Look.of rfl))) ?_
    refine SK.p rfl rfl (ok_assign rfl (Ev.tmp (Look.of rfl))) ?_
    refine SK.nil ⟨by kernel_rfl, ?_⟩
    repeat refine AW.seq ?_
    refine AW.reg (nx' := 0) (by kernel_rfl) ?_
    refine SK.p rfl rfl (ok_move rfl (Ev.tmp (Look.of rfl))) ?_
    refine SK.p rfl rfl (ok_move rfl (Ev.tmp (Look.of rfl))) ?_
    refine SK.p rfl rfl (by first | exact ok_index_sl (e := 21) (s := 1) (bb := false) rfl (by kernel_rfl) (by kernel_rfl) (Ev.tmp (Look.of rfl)) (Ev.tmp (Look.of rfl)) (by omega) (by omega) (by first | assumption | (simp only [Int.toNat_natCast, Nat.mul_one, Int.toNat_zero, Nat.zero_mul, List.drop_zero, Nat.zero_add]; rfl) | rfl) | exact ok_index (e := 21) (s := 1) (bb := false) rfl (by kernel_rfl) (by kernel_rfl) (Ev.tmp (Look.of rfl)) (Ev.tmp (Look.of rfl)) (by omega) (by omega) (by first | assumption | (simp only [Int.toNat_natCast, Nat.mul_one, Int.toNat_zero, Nat.zero_mul, List.drop_zero, Nat.zero_add]; rfl) | rfl)) ?_
    refine SK.p rfl rfl (by first | exact ok_load rfl (by kernel_rfl) (Ev.tmp (Look.of rfl)) (Look.of rfl) (by first | rfl | assumption) | exact ok_load_rp rfl (by kernel_rfl) (Ev.tmp (Look.of rfl)) (by first | rfl | assumption)) ?_
    refine SK.p rfl rfl (ok_move rfl (Ev.tmp (Look.of rfl))) ?_
    refine SK.p rfl rfl (ok_move rfl (Ev.tmp (Look.of rfl))) ?_
    refine SK.p rfl rfl (by first | exact ok_index_sl (e := 21) (s := 1) (bb := false) rfl (by kernel_rfl) (by kernel_rfl) (Ev.tmp (Look.of rfl)) (Ev.tmp (Look.of rfl)) (by omega) (by omega) (by first | assumption | (simp only [Int.toNat_natCast, Nat.mul_one, Int.toNat_zero, Nat.zero_mul, List.drop_zero, Nat.zero_add]; rfl) | rfl) | exact ok_index (e := 21) (s := 1) (bb := false) rfl (by kernel_rfl) (by kernel_rfl) (Ev.tmp (Look.of rfl)) (Ev.tmp (Look.of rfl)) (by omega) (by omega) (by first | assumption | (simp only [Int.toNat_natCast, Nat.mul_one, Int.toNat_zero, Nat.zero_mul, List.drop_zero, Nat.zero_add]; rfl) | rfl)) ?_
    refine SK.p rfl rfl (by first | exact ok_load rfl (by kernel_rfl) (Ev.tmp (Look.of rfl)) (Look.of rfl) (by first | rfl | assumption) | exact ok_load_rp rfl (by kernel_rfl) (Ev.tmp (Look.of rfl)) (by first | rfl | assumption)) ?_
    refine SK.p rfl rfl (by first | exact ok_bin rfl (Ev.tmp (Look.of rfl)) (Ev.tmp (Look.of rfl)) (r_neq (by first | assumption | exact decide_eq_true (by omega) | exact decide_eq_false (by omega) | rfl)) rfl | exact ok_bin rfl (Ev.tmp (Look.of rfl)) (Ev.tmp (Look.of rfl)) (r_bneq (by kernel_rfl) rfl) rfl) ?_
    refine SK.nil ⟨by kernel_rfl, ?_⟩
    repeat refine AW.seq ?_
    refine AW.cond_f (.tmp (Look.of rfl)) ?_
    repeat refine AW.seq ?_
    refine AW.skip ?_
    repeat refine AW.seq ?_
    refine AW.reg (nx' := 0) (by kernel_rfl) ?_
    refine SK.p rfl rfl (by first | exact ok_bin rfl (Ev.tmp (Look.of rfl)) (Ev.lit rfl) (r_add (by first | assumption | exact IntWalk.i64_in _ (by omega) | rfl)) rfl) ?_
    refine SK.p rfl rfl (ok_move rfl (Ev.tmp (Look.of rfl))) ?_
    refine SK.nil ⟨by kernel_rfl, ?_⟩
    exact ⟨⟨k + 1, hlt⟩, ⟨fun b => b, (by repeat' (first | exact trivial | refine And.intro (And.intro (by first | rfl | assumption) ⟨_, (Look.of rfl), (by first | rfl | assumption | (simp [mapPV, mapE, mapC] <;> omega))⟩) ?_)), (by repeat' (first | exact RenG.base (fun b h => by first | exact absurd h (Nat.not_lt_zero _) | (have h0 : b = 0 := Nat.lt_one_iff.mp h; subst h0; rfl)) (Nat.le_of_ble_eq_true rfl) | refine RenG.cons ?_ rfl rfl (Look.of rfl) (by first | rfl | exact cI_map _ _ _ | assumption) (by first | rfl | exact cI_low _ _ _ | assumption) rfl))⟩, by first | omega | (simp <;> omega)⟩
  · obtain rfl : k = l.length := by omega
    repeat refine AW.seq ?_
    refine AW.reg (nx' := 0) (by kernel_rfl) ?_
    refine SK.p rfl rfl (by first | exact ok_bin rfl (Ev.tmp (Look.of rfl)) (Ev.tmp (Look.of rfl)) (r_lss (by first | assumption | exact decide_eq_true (by omega) | exact decide_eq_false (by omega) | rfl)) rfl) ?_
    refine SK.nil ⟨by kernel_rfl, ?_⟩
    repeat refine AW.seq ?_
    refine AW.cond_f (.tmp (Look.of rfl)) ?_
    repeat refine AW.seq ?_
    refine AW.exit ?_
    repeat refine AW.seq ?_
    refine AW.reg (nx' := 0) (by kernel_rfl) ?_
    refine SK.p rfl rfl (ok_assign rfl (Ev.lit rfl)) ?_
    refine SK.nil ⟨by kernel_rfl, ?_⟩
    exact AW.ret ⟨.inr rfl, _, fun b => b, (.cons (.tmp (Look.of rfl)) .nil), (by first | rfl | assumption | simp [mapPV, mapE, mapC, pvOf]), (by first | rfl | assumption), (RenG.base (fun b h => by first | exact absurd h (Nat.not_lt_zero _) | (have h0 : b = 0 := Nat.lt_one_iff.mp h; subst h0; rfl)) (Nat.le_of_ble_eq_true rfl))⟩
set_option maxHeartbeats 4000000 in
theorem F_Same4 (ch : Int) (l : List Int) (h : l.length ≤ 10000000) : Fun 18 [blkA ch (slI l), blkA ch (slI l)] [] 0 (LV (.bool true)) [] 0 := by
  have hd := F_SameData l h
  refine Fun.mk (n := 17) Try.func18 rfl rfl (Nat.le_of_ble_eq_true rfl) ?_
  intro cx hcx
  simp only [argSlots, Nat.reduceAdd]
  repeat refine AW.seq ?_
  refine AW.reg (nx' := 2) (by kernel_rfl) ?_
  refine SK.w1 rfl rfl (by first | exact ok_box_agg (nx := 0) rfl (Ev.tmp (Look.of rfl)) | exact ok_box_c (nx := 0) rfl (Ev.tmp (Look.of rfl))) ?_
  refine SK.w1 rfl rfl (by first | exact ok_box_agg (nx := 1) rfl (Ev.tmp (Look.of rfl)) | exact ok_box_c (nx := 1) rfl (Ev.tmp (Look.of rfl))) ?_
  refine SK.p rfl rfl (ok_assign rfl (Ev.lit rfl)) ?_
  refine SK.nil ⟨by kernel_rfl, ?_⟩
  repeat refine AW.seq ?_
  refine AW.reg (nx' := 2) (by kernel_rfl) ?_
  refine SK.p rfl rfl (by first | exact ok_fieldAddr (k := 0) (n := 0) (bb := false) rfl (by kernel_rfl) (Ev.tmp (Look.of rfl)) (by first | exact Nat.zero_add _ | rfl) | exact ok_fieldAddr_rp (k := 0) (n := 0) (bb := false) rfl (by kernel_rfl) (Ev.tmp (Look.of rfl)) (by first | assumption | rfl)) ?_
  refine SK.p rfl rfl (by first | exact ok_load rfl (by kernel_rfl) (Ev.tmp (Look.of rfl)) (Look.of rfl) (by first | rfl | assumption) | exact ok_load_rp rfl (by kernel_rfl) (Ev.tmp (Look.of rfl)) (by first | rfl | assumption)) ?_
  refine SK.p rfl rfl (by first | exact ok_fieldAddr (k := 0) (n := 0) (bb := false) rfl (by kernel_rfl) (Ev.tmp (Look.of rfl)) (by first | exact Nat.zero_add _ | rfl) | exact ok_fieldAddr_rp (k := 0) (n := 0) (bb := false) rfl (by kernel_rfl) (Ev.tmp (Look.of rfl)) (by first | assumption | rfl)) ?_
  refine SK.p rfl rfl (by first | exact ok_load rfl (by kernel_rfl) (Ev.tmp (Look.of rfl)) (Look.of rfl) (by first | rfl | assumption) | exact ok_load_rp rfl (by kernel_rfl) (Ev.tmp (Look.of rfl)) (by first | rfl | assumption)) ?_
  refine SK.p rfl rfl (by first | exact ok_bin rfl (Ev.tmp (Look.of rfl)) (Ev.tmp (Look.of rfl)) (r_eql (by first | assumption | exact decide_eq_true (by omega) | exact decide_eq_false (by omega) | rfl)) rfl | exact ok_bin rfl (Ev.tmp (Look.of rfl)) (Ev.tmp (Look.of rfl)) (r_beql (by kernel_rfl) rfl) rfl) ?_
  refine SK.p rfl rfl (ok_move rfl (Ev.tmp (Look.of rfl))) ?_
  first | refine SK.gp rfl rfl rfl (Look.of rfl) rfl (by first | exact ok_fieldAddr (k := 1) (n := 0) (bb := false) rfl (by kernel_rfl) (Ev.tmp (Look.of rfl)) (by first | exact Nat.zero_add _ | rfl) | exact ok_fieldAddr_rp (k := 1) (n := 0) (bb := false) rfl (by kernel_rfl) (Ev.tmp (Look.of rfl)) (by first | assumption | rfl)) ?_ | refine SK.gn rfl rfl rfl (Look.of rfl) rfl rfl ?_
  first | refine SK.gp rfl rfl rfl (Look.of rfl) rfl (by first | exact ok_load rfl (by kernel_rfl) (Ev.tmp (Look.of rfl)) (Look.of rfl) (by first | rfl | assumption) | exact ok_load_rp rfl (by kernel_rfl) (Ev.tmp (Look.of rfl)) (by first | rfl | assumption)) ?_ | refine SK.gn rfl rfl rfl (Look.of rfl) rfl rfl ?_
  first | refine SK.gp rfl rfl rfl (Look.of rfl) rfl (by first | exact ok_fieldAddr (k := 1) (n := 0) (bb := false) rfl (by kernel_rfl) (Ev.tmp (Look.of rfl)) (by first | exact Nat.zero_add _ | rfl) | exact ok_fieldAddr_rp (k := 1) (n := 0) (bb := false) rfl (by kernel_rfl) (Ev.tmp (Look.of rfl)) (by first | assumption | rfl)) ?_ | refine SK.gn rfl rfl rfl (Look.of rfl) rfl rfl ?_
  first | refine SK.gp rfl rfl rfl (Look.of rfl) rfl (by first | exact ok_load rfl (by kernel_rfl) (Ev.tmp (Look.of rfl)) (Look.of rfl) (by first | rfl | assumption) | exact ok_load_rp rfl (by kernel_rfl) (Ev.tmp (Look.of rfl)) (by first | rfl | assumption)) ?_ | refine SK.gn rfl rfl rfl (Look.of rfl) rfl rfl ?_
  first | refine SK.gw rfl rfl rfl (Look.of rfl) rfl (ok_call0 (nx := 2) (snap := false) (foot := []) (hF := hd) (ho := rfl) (hent := ent34) (hargs := (EvA.cons (Ev.tmp (Look.of rfl)) (EvA.cons (Ev.tmp (Look.of rfl)) EvA.nil))) (hpass := (by repeat' (first | exact trivial | refine ⟨?_, ?_⟩ | exact PassE.c (by first | exact PassC.same rfl rfl | exact PassC.nil | exact PassC.own rfl (Look.of rfl) rfl rfl (by first | exact cI_own _ _ | assumption | (simp only [List.drop_zero, cI_part, ← cI_dI, Nat.mul_one]; rfl) | rfl) (by first | rfl | assumption | (simp only [cI_len, dI_len, List.length_map, List.length_append, List.length_cons, List.length_nil]; omega))) | refine PassE.agg ?_ | exact (by first | exact PassC.same rfl rfl | exact PassC.nil | exact PassC.own rfl (Look.of rfl) rfl rfl (by first | exact cI_own _ _ | assumption | (simp only [List.drop_zero, cI_part, ← cI_dI, Nat.mul_one]; rfl) | rfl) (by first | rfl | assumption | (simp only [cI_len, dI_len, List.length_map, List.length_append, List.length_cons, List.length_nil]; omega)))))) (hout := rfl) (hsn := rfl) (hu := (by first | (simp only [nm, mapPV, mapE, mapC_d, mapC_own, mapC_ptr, mapBk_some, mapBk_none, cI_map, List.map_cons, List.map_nil, List.length_nil, List.length_cons, Nat.not_lt_zero, Nat.reduceLT, Nat.reduceAdd, Nat.reduceSub, Nat.zero_add, Nat.sub_zero, Nat.add_zero, if_false, if_true, ↓reduceIte, List.getD_cons_zero, List.getD_cons_succ, Nat.lt_irrefl, Nat.sub_self, Nat.zero_lt_one]; done) | (simp only [nm, mapPV, mapE, mapC_d, mapC_own, mapC_ptr, mapBk_some, mapBk_none, cI_map, List.map_cons, List.map_nil, List.length_nil, List.length_cons, Nat.not_lt_zero, Nat.reduceLT, Nat.reduceAdd, Nat.reduceSub, Nat.zero_add, Nat.sub_zero, Nat.add_zero, if_false, if_true, ↓reduceIte, List.getD_cons_zero, List.getD_cons_succ, Nat.lt_irrefl, Nat.sub_self, Nat.zero_lt_one]; rfl) | rfl)) (hw := (by first | (simp only [nm, mapPV, mapE, mapC_d, mapC_own, mapC_ptr, mapBk_some, mapBk_none, cI_map, List.map_cons, List.map_nil, List.length_nil, List.length_cons, Nat.not_lt_zero, Nat.reduceLT, Nat.reduceAdd, Nat.reduceSub, Nat.zero_add, Nat.sub_zero, Nat.add_zero, if_false, if_true, ↓reduceIte, List.getD_cons_zero, List.getD_cons_succ, Nat.lt_irrefl, Nat.sub_self, Nat.zero_lt_one]; done) | (simp only [nm, mapPV, mapE, mapC_d, mapC_own, mapC_ptr, mapBk_some, mapBk_none, cI_map, List.map_cons, List.map_nil, List.length_nil, List.length_cons, Nat.not_lt_zero, Nat.reduceLT, Nat.reduceAdd, Nat.reduceSub, Nat.zero_add, Nat.sub_zero, Nat.add_zero, if_false, if_true, ↓reduceIte, List.getD_cons_zero, List.getD_cons_succ, Nat.lt_irrefl, Nat.sub_self, Nat.zero_lt_one]; rfl) | rfl)) (hn := rfl)) (by first | rfl | (simp only [List.cons_append, List.nil_append]; rfl)) ?_ | refine SK.gn rfl rfl rfl (Look.of rfl) rfl rfl ?_
  refine SK.p rfl rfl (by first | exact ok_pick_t rfl (Ev.tmp (Look.of rfl)) (Ev.tmp (Look.of rfl)) | exact ok_pick_f rfl (Ev.tmp (Look.of rfl)) (Ev.lit rfl) | exact ok_pick rfl (Ev.tmp (Look.of rfl)) (Ev.tmp (Look.of rfl)) (Ev.lit rfl)) ?_
  refine SK.p rfl rfl (ok_assign rfl (Ev.tmp (Look.of rfl))) ?_
  refine SK.nil ⟨by kernel_rfl, ?_⟩
  exact AW.ret ⟨.inr rfl, _, fun b => b, (.cons (.tmp (Look.of rfl)) .nil), (by first | rfl | assumption | simp [mapPV, mapE, mapC, pvOf]), (by first | rfl | assumption), (RenG.base (fun b h => by first | exact absurd h (Nat.not_lt_zero _) | (have h0 : b = 0 := Nat.lt_one_iff.mp h; subst h0; rfl)) (Nat.le_of_ble_eq_true rfl))⟩
set_option maxHeartbeats 4000000 in
theorem F_Same (ch cap wr rd : Int) (l : List Int) (h : l.length ≤ 10000000) : Fun 15 [ringA ch cap wr rd (slI l), ringA ch cap wr rd (slI l)] [] 0 (LV (.bool true)) [] 0 := by
  have hd := F_SameData l h
  refine Fun.mk (n := 38) Try.func15 rfl rfl (Nat.le_of_ble_eq_true rfl) ?_
  intro cx hcx
  simp only [argSlots, Nat.reduceAdd]
  repeat refine AW.seq ?_
  refine AW.reg (nx' := 2) (by kernel_rfl) ?_
  refine SK.w1 rfl rfl (by first | exact ok_box_agg (nx := 0) rfl (Ev.tmp (Look.of rfl)) | exact ok_box_c (nx := 0) rfl (Ev.tmp (Look.of rfl))) ?_
  refine SK.w1 rfl rfl (by first | exact ok_box_agg (nx := 1) rfl (Ev.tmp (Look.of rfl)) | exact ok_box_c (nx := 1) rfl (Ev.tmp (Look.of rfl))) ?_
  refine SK.p rfl rfl (ok_assign rfl (Ev.lit rfl)) ?_
  refine SK.nil ⟨by kernel_rfl, ?_⟩
  repeat refine AW.seq ?_
  refine AW.reg (nx' := 2) (by kernel_rfl) ?_
  refine SK.p rfl rfl (by first | exact ok_fieldAddr (k := 0) (n := 0) (bb := false) rfl (by kernel_rfl) (Ev.tmp (Look.of rfl)) (by first | exact Nat.zero_add _ | rfl) | exact ok_fieldAddr_rp (k := 0) (n := 0) (bb := false) rfl (by kernel_rfl) (Ev.tmp (Look.of rfl)) (by first | assumption | rfl)) ?_
  refine SK.p rfl rfl (by first | exact ok_load rfl (by kernel_rfl) (Ev.tmp (Look.of rfl)) (Look.of rfl) (by first | rfl | assumption) | exact ok_load_rp rfl (by kernel_rfl) (Ev.tmp (Look.of rfl)) (by first | rfl | assumption)) ?_
  refine SK.p rfl rfl (by first | exact ok_fieldAddr (k := 0) (n := 0) (bb := false) rfl (by kernel_rfl) (Ev.tmp (Look.of rfl)) (by first | exact Nat.zero_add _ | rfl) | exact ok_fieldAddr_rp (k := 0) (n := 0) (bb := false) rfl (by kernel_rfl) (Ev.tmp (Look.of rfl)) (by first | assumption | rfl)) ?_
  refine SK.p rfl rfl (by first | exact ok_load rfl (by kernel_rfl) (Ev.tmp (Look.of rfl)) (Look.of rfl) (by first | rfl | assumption) | exact ok_load_rp rfl (by kernel_rfl) (Ev.tmp (Look.of rfl)) (by first | rfl | assumption)) ?_
  refine SK.p rfl rfl (by first | exact ok_bin rfl (Ev.tmp (Look.of rfl)) (Ev.tmp (Look.of rfl)) (r_eql (by first | assumption | exact decide_eq_true (by omega) | exact decide_eq_false (by omega) | rfl)) rfl | exact ok_bin rfl (Ev.tmp (Look.of rfl)) (Ev.tmp (Look.of rfl)) (r_beql (by kernel_rfl) rfl) rfl) ?_
  refine SK.p rfl rfl (ok_move rfl (Ev.tmp (Look.of rfl))) ?_
  first | refine SK.gp rfl rfl rfl (Look.of rfl) rfl (by first | exact ok_fieldAddr (k := 1) (n := 0) (bb := false) rfl (by kernel_rfl) (Ev.tmp (Look.of rfl)) (by first | exact Nat.zero_add _ | rfl) | exact ok_fieldAddr_rp (k := 1) (n := 0) (bb := false) rfl (by kernel_rfl) (Ev.tmp (Look.of rfl)) (by first | assumption | rfl)) ?_ | refine SK.gn rfl rfl rfl (Look.of rfl) rfl rfl ?_
  first | refine SK.gp rfl rfl rfl (Look.of rfl) rfl (by first | exact ok_load rfl (by kernel_rfl) (Ev.tmp (Look.of rfl)) (Look.of rfl) (by first | rfl | assumption) | exact ok_load_rp rfl (by kernel_rfl) (Ev.tmp (Look.of rfl)) (by first | rfl | assumption)) ?_ | refine SK.gn rfl rfl rfl (Look.of rfl) rfl rfl ?_
  first | refine SK.gp rfl rfl rfl (Look.of rfl) rfl (by first | exact ok_fieldAddr (k := 1) (n := 0) (bb := false) rfl (by kernel_rfl) (Ev.tmp (Look.of rfl)) (by first | exact Nat.zero_add _ | rfl) | exact ok_fieldAddr_rp (k := 1) (n := 0) (bb := false) rfl (by kernel_rfl) (Ev.tmp (Look.of rfl)) (by first | assumption | rfl)) ?_ | refine SK.gn rfl rfl rfl (Look.of rfl) rfl rfl ?_
  first | refine SK.gp rfl rfl rfl (Look.of rfl) rfl (by first | exact ok_load rfl (by kernel_rfl) (Ev.tmp (Look.of rfl)) (Look.of rfl) (by first | rfl | assumption) | exact ok_load_rp rfl (by kernel_rfl) (Ev.tmp (Look.of rfl)) (by first | rfl | assumption)) ?_ | refine SK.gn rfl rfl rfl (Look.of rfl) rfl rfl ?_
  first | refine SK.gp rfl rfl rfl (Look.of rfl) rfl (by first | exact ok_bin rfl (Ev.tmp (Look.of rfl)) (Ev.tmp (Look.of rfl)) (r_eql (by first | assumption | exact decide_eq_true (by omega) | exact decide_eq_false (by omega) | rfl)) rfl | exact ok_bin rfl (Ev.tmp (Look.of rfl)) (Ev.tmp (Look.of rfl)) (r_beql (by kernel_rfl) rfl) rfl) ?_ | refine SK.gn rfl rfl rfl (Look.of rfl) rfl rfl ?_
  refine SK.p rfl rfl (by first | exact ok_pick_t rfl (Ev.tmp (Look.of rfl)) (Ev.tmp (Look.of rfl)) | exact ok_pick_f rfl (Ev.tmp (Look.of rfl)) (Ev.lit rfl) | exact ok_pick rfl (Ev.tmp (Look.of rfl)) (Ev.tmp (Look.of rfl)) (Ev.lit rfl)) ?_
  refine SK.p rfl rfl (ok_move rfl (Ev.tmp (Look.of rfl))) ?_
  first | refine SK.gp rfl rfl rfl (Look.of rfl) rfl (by first | exact ok_fieldAddr (k := 2) (n := 0) (bb := false) rfl (by kernel_rfl) (Ev.tmp (Look.of rfl)) (by first | exact Nat.zero_add _ | rfl) | exact ok_fieldAddr_rp (k := 2) (n := 0) (bb := false) rfl (by kernel_rfl) (Ev.tmp (Look.of rfl)) (by first | assumption | rfl)) ?_ | refine SK.gn rfl rfl rfl (Look.of rfl) rfl rfl ?_
  first | refine SK.gp rfl rfl rfl (Look.of rfl) rfl (by first | exact ok_load rfl (by kernel_rfl) (Ev.tmp (Look.of rfl)) (Look.of rfl) (by first | rfl | assumption) | exact ok_load_rp rfl (by kernel_rfl) (Ev.tmp (Look.of rfl)) (by first | rfl | assumption)) ?_ | refine SK.gn rfl rfl rfl (Look.of rfl) rfl rfl ?_
  first | refine SK.gp rfl rfl rfl (Look.of rfl) rfl (by first | exact ok_fieldAddr (k := 2) (n := 0) (bb := false) rfl (by kernel_rfl) (Ev.tmp (Look.of rfl)) (by first | exact Nat.zero_add _ | rfl) | exact ok_fieldAddr_rp (k := 2) (n := 0) (bb := false) rfl (by kernel_rfl) (Ev.tmp (Look.of rfl)) (by first | assumption | rfl)) ?_ | refine SK.gn rfl rfl rfl (Look.of rfl) rfl rfl ?_
  first | refine SK.gp rfl rfl rfl (Look.of rfl) rfl (by first | exact ok_load rfl (by kernel_rfl) (Ev.tmp (Look.of rfl)) (Look.of rfl) (by first | rfl | assumption) | exact ok_load_rp rfl (by kernel_rfl) (Ev.tmp (Look.of rfl)) (by first | rfl | assumption)) ?_ | refine SK.gn rfl rfl rfl (Look.of rfl) rfl rfl ?_
  first | refine SK.gp rfl rfl rfl (Look.of rfl) rfl (by first | exact ok_bin rfl (Ev.tmp (Look.of rfl)) (Ev.tmp (Look.of rfl)) (r_eql (by first | assumption | exact decide_eq_true (by omega) | exact decide_eq_false (by omega) | rfl)) rfl | exact ok_bin rfl (Ev.tmp (Look.of rfl)) (Ev.tmp (Look.of rfl)) (r_beql (by kernel_rfl) rfl) rfl) ?_ | refine SK.gn rfl rfl rfl (Look.of rfl) rfl rfl ?_
  refine SK.p rfl rfl (by first | exact ok_pick_t rfl (Ev.tmp (Look.of rfl)) (Ev.tmp (Look.of rfl)) | exact ok_pick_f rfl (Ev.tmp (Look.of rfl)) (Ev.lit rfl) | exact ok_pick rfl (Ev.tmp (Look.of rfl)) (Ev.tmp (Look.of rfl)) (Ev.lit rfl)) ?_
  refine SK.p rfl rfl (ok_move rfl (Ev.tmp (Look.of rfl))) ?_
  first | refine SK.gp rfl rfl rfl (Look.of rfl) rfl (by first | exact ok_fieldAddr (k := 3) (n := 0) (bb := false) rfl (by kernel_rfl) (Ev.tmp (Look.of rfl)) (by first | exact Nat.zero_add _ | rfl) | exact ok_fieldAddr_rp (k := 3) (n := 0) (bb := false) rfl (by kernel_rfl) (Ev.tmp (Look.of rfl)) (by first | assumption | rfl)) ?_ | refine SK.gn rfl rfl rfl (Look.of rfl) rfl rfl ?_
  first | refine SK.gp rfl rfl rfl (Look.of rfl) rfl (by first | exact ok_load rfl (by kernel_rfl) (Ev.tmp (Look.of rfl)) (Look.of rfl) (by first | rfl | assumption) | exact ok_load_rp rfl (by kernel_rfl) (Ev.tmp (Look.of rfl)) (by first | rfl | assumption)) ?_ | refine SK.gn rfl rfl rfl (Look.of rfl) rfl rfl ?_
  first | refine SK.gp rfl rfl rfl (Look.of rfl) rfl (by first | exact ok_fieldAddr (k := 3) (n := 0) (bb := false) rfl (by kernel_rfl) (Ev.tmp (Look.of rfl)) (by first | exact Nat.zero_add _ | rfl) | exact ok_fieldAddr_rp (k := 3) (n := 0) (bb := false) rfl (by kernel_rfl) (Ev.tmp (Look.of rfl)) (by first | assumption | rfl)) ?_ | refine SK.gn rfl rfl rfl (Look.of rfl) rfl rfl ?_
  first | refine SK.gp rfl rfl rfl (Look.of rfl) rfl (by first | exact ok_load rfl (by kernel_rfl) (Ev.tmp (Look.of rfl)) (Look.of rfl) (by first | rfl | assumption) | exact ok_load_rp rfl (by kernel_rfl) (Ev.tmp (Look.of rfl)) (by first | rfl | assumption)) ?_ | refine SK.gn rfl rfl rfl (Look.of rfl) rfl rfl ?_
  first | refine SK.gp rfl rfl rfl (Look.of rfl) rfl (by first | exact ok_bin rfl (Ev.tmp (Look.of rfl)) (Ev.tmp (Look.of rfl)) (r_eql (by first | assumption | exact decide_eq_true (by omega) | exact decide_eq_false (by omega) | rfl)) rfl | exact ok_bin rfl (Ev.tmp (Look.of rfl)) (Ev.tmp (Look.of rfl)) (r_beql (by kernel_rfl) rfl) rfl) ?_ | refine SK.gn rfl rfl rfl (Look.of rfl) rfl rfl ?_
  refine SK.p rfl rfl (by first | exact ok_pick_t rfl (Ev.tmp (Look.of rfl)) (Ev.tmp (Look.of rfl)) | exact ok_pick_f rfl (Ev.tmp (Look.of rfl)) (Ev.lit rfl) | exact ok_pick rfl (Ev.tmp (Look.of rfl)) (Ev.tmp (Look.of rfl)) (Ev.lit rfl)) ?_
  refine SK.p rfl rfl (ok_move rfl (Ev.tmp (Look.of rfl))) ?_
  first | refine SK.gp rfl rfl rfl (Look.of rfl) rfl (by first | exact ok_fieldAddr (k := 4) (n := 0) (bb := false) rfl (by kernel_rfl) (Ev.tmp (Look.of rfl)) (by first | exact Nat.zero_add _ | rfl) | exact ok_fieldAddr_rp (k := 4) (n := 0) (bb := false) rfl (by kernel_rfl) (Ev.tmp (Look.of rfl)) (by first | assumption | rfl)) ?_ | refine SK.gn rfl rfl rfl (Look.of rfl) rfl rfl ?_
  first | refine SK.gp rfl rfl rfl (Look.of rfl) rfl (by first | exact ok_load rfl (by kernel_rfl) (Ev.tmp (Look.of rfl)) (Look.of rfl) (by first | rfl | assumption) | exact ok_load_rp rfl (by kernel_rfl) (Ev.tmp (Look.of rfl)) (by first | rfl | assumption)) ?_ | refine SK.gn rfl rfl rfl (Look.of rfl) rfl rfl ?_
  first | refine SK.gp rfl rfl rfl (Look.of rfl) rfl (by first | exact ok_fieldAddr (k := 4) (n := 0) (bb := false) rfl (by kernel_rfl) (Ev.tmp (Look.of rfl)) (by first | exact Nat.zero_add _ | rfl) | exact ok_fieldAddr_rp (k := 4) (n := 0) (bb := false) rfl (by kernel_rfl) (Ev.tmp (Look.of rfl)) (by first | assumption | rfl)) ?_ | refine SK.gn rfl rfl rfl (Look.of rfl) rfl rfl ?_
  first | refine SK.gp rfl rfl rfl (Look.of rfl) rfl (by first | exact ok_load rfl (by kernel_rfl) (Ev.tmp (Look.of rfl)) (Look.of rfl) (by first | rfl | assumption) | exact ok_load_rp rfl (by kernel_rfl) (Ev.tmp (Look.of rfl)) (by first | rfl | assumption)) ?_ | refine SK.gn rfl rfl rfl (Look.of rfl) rfl rfl ?_
  first | refine SK.gw rfl rfl rfl (Look.of rfl) rfl (ok_call0 (nx := 2) (snap := false) (foot := []) (hF := hd) (ho := rfl) (hent := ent34) (hargs := (EvA.cons (Ev.tmp (Look.of rfl)) (EvA.cons (Ev.tmp (Look.of rfl)) EvA.nil))) (hpass := (by repeat' (first | exact trivial | refine ⟨?_, ?_⟩ | exact PassE.c (by first | exact PassC.same rfl rfl | exact PassC.nil | exact PassC.own rfl (Look.of rfl) rfl rfl (by first | exact cI_own _ _ | assumption | (simp only [List.drop_zero, cI_part, ← cI_dI, Nat.mul_one]; rfl) | rfl) (by first | rfl | assumption | (simp only [cI_len, dI_len, List.length_map, List.length_append, List.length_cons, List.length_nil]; omega))) | refine PassE.agg ?_ | exact (by first | exact PassC.same rfl rfl | exact PassC.nil | exact PassC.own rfl (Look.of rfl) rfl rfl (by first | exact cI_own _ _ | assumption | (simp only [List.drop_zero, cI_part, ← cI_dI, Nat.mul_one]; rfl) | rfl) (by first | rfl | assumption | (simp only [cI_len, dI_len, List.length_map, List.length_append, List.length_cons, List.length_nil]; omega)))))) (hout := rfl) (hsn := rfl) (hu := (by first | (simp only [nm, mapPV, mapE, mapC_d, mapC_own, mapC_ptr, mapBk_some, mapBk_none, cI_map, List.map_cons, List.map_nil, List.length_nil, List.length_cons, Nat.not_lt_zero, Nat.reduceLT, Nat.reduceAdd, Nat.reduceSub, Nat.zero_add, Nat.sub_zero, Nat.add_zero, if_false, if_true, ↓reduceIte, List.getD_cons_zero, List.getD_cons_succ, Nat.lt_irrefl, Nat.sub_self, Nat.zero_lt_one]; done) | (simp only [nm, mapPV, mapE, mapC_d, mapC_own, mapC_ptr, mapBk_some, mapBk_none, cI_map, List.map_cons, List.map_nil, List.length_nil, List.length_cons, Nat.not_lt_zero, Nat.reduceLT, Nat.reduceAdd, Nat.reduceSub, Nat.zero_add, Nat.sub_zero, Nat.add_zero, if_false, if_true, ↓reduceIte, List.getD_cons_zero, List.getD_cons_succ, Nat.lt_irrefl, Nat.sub_self, Nat.zero_lt_one]; rfl) | rfl)) (hw := (by first | (simp only [nm, mapPV, mapE, mapC_d, mapC_own, mapC_ptr, mapBk_some, mapBk_none, cI_map, List.map_cons, List.map_nil, List.length_nil, List.length_cons, Nat.not_lt_zero, Nat.reduceLT, Nat.reduceAdd, Nat.reduceSub, Nat.zero_add, Nat.sub_zero, Nat.add_zero, if_false, if_true, ↓reduceIte, List.getD_cons_zero, List.getD_cons_succ, Nat.lt_irrefl, Nat.sub_self, Nat.zero_lt_one]; done) | (simp only [nm, mapPV, mapE, mapC_d, mapC_own, mapC_ptr, mapBk_some, mapBk_none, cI_map, List.map_cons, List.map_nil, List.length_nil, List.length_cons, Nat.not_lt_zero, Nat.reduceLT, Nat.reduceAdd, Nat.reduceSub, Nat.zero_add, Nat.sub_zero, Nat.add_zero, if_false, if_true, ↓reduceIte, List.getD_cons_zero, List.getD_cons_succ, Nat.lt_irrefl, Nat.sub_self, Nat.zero_lt_one]; rfl) | rfl)) (hn := rfl)) (by first | rfl | (simp only [List.cons_append, List.nil_append]; rfl)) ?_ | refine SK.gn rfl rfl rfl (Look.of rfl) rfl rfl ?_
  refine SK.p rfl rfl (by first | exact ok_pick_t rfl (Ev.tmp (Look.of rfl)) (Ev.tmp (Look.of rfl)) | exact ok_pick_f rfl (Ev.tmp (Look.of rfl)) (Ev.lit rfl) | exact ok_pick rfl (Ev.tmp (Look.of rfl)) (Ev.tmp (Look.of rfl)) (Ev.lit rfl)) ?_
  refine SK.p rfl rfl (ok_assign rfl (Ev.tmp (Look.of rfl))) ?_
  refine SK.nil ⟨by kernel_rfl, ?_⟩
  exact AW.ret ⟨.inr rfl, _, fun b => b, (.cons (.tmp (Look.of rfl)) .nil), (by first | rfl | assumption | simp [mapPV, mapE, mapC, pvOf]), (by first | rfl | assumption), (RenG.base (fun b h => by first | exact absurd h (Nat.not_lt_zero _) | (have h0 : b = 0 := Nat.lt_one_iff.mp h; subst h0; rfl)) (Nat.le_of_ble_eq_true rfl))⟩
end Go.Proofs.Ytlelnhapcfjhfaa
