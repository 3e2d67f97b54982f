/- Rings: small functions. No statement is proved here. -/
import Derived.Test.YtlelnhapcfjhfaaAmEnt
namespace Go.Proofs.Ytlelnhapcfjhfaa
open Go.ChangeShapes Go.WideShapes Go.ChangeAt Go.RowKit
set_option linter.unusedVariables false
set_option linter.unusedSimpArgs false

abbrev vI (n : Int) : C := LC (.int .i64 n)
abbrev slI (l : List Int) : C := .d (.sl (dI .i32 l) l.length)
abbrev ringA (ch cap wr rd : Int) (x : C) : E1 := .agg [vI ch, vI cap, vI wr, vI rd, x]
abbrev blkA (ch : Int) (x : C) : E1 := .agg [vI ch, x]
def smpB (s : Int) : Bool := decide (-8388608 ≤ s ∧ s ≤ 8388607)
theorem smp_yes {s : Int} (h : smpB s = true) : -8388608 ≤ s ∧ s ≤ 8388607 := by unfold smpB at h; exact of_decide_eq_true h
theorem smp_no {s : Int} (h : smpB s = false) : s < -8388608 ∨ 8388607 < s := by unfold smpB at h; have := of_decide_eq_false h; omega
/-- is it a block -/
def validB (ch : Int) (l : List Int) : Bool := decide (1 ≤ ch) && (decide (ch ≤ 8) && (decide (l.length % ch.toNat = 0) && (decide (l.length / ch.toNat ≤ 65536) && l.all smpB)))

set_option maxHeartbeats 4000000 in
theorem F_fill (ch cap : Int) (f : Nat) (rd : Int) (x : C) (h : 0 ≤ rd ∧ rd + f ≤ 1125899906842624) :
    Fun 30 [ringA ch cap (rd + f) rd x] [] 0 (LV (.int .i64 f)) [] 0 := by
  have hw : IntKind.i64.wrap (rd + f - rd) = (f : Int) := by rw [show rd + (f : Int) - rd = f by omega]; exact IntWalk.i64_in _ (by omega)
  have hw2 : IntKind.i64.wrap (f : Int) = (f : Int) := IntWalk.i64_in _ (by omega)
  refine Fun.mk (n := 8) Try.func30 rfl rfl (Nat.le_of_ble_eq_true rfl) ?_
  intro cx hcx
  simp only [argSlots, Nat.reduceAdd]
  repeat refine AW.seq ?_
  refine AW.reg (nx' := 1) (by kernel_rfl) ?_
  refine SK.w1 rfl rfl (by first | exact ok_box_agg (nx := 0) rfl (Ev.tmp (Look.of rfl)) | exact ok_box_c (nx := 0) rfl (Ev.tmp (Look.of rfl))) ?_
  refine SK.p rfl rfl (ok_assign rfl (Ev.lit rfl)) ?_
  refine SK.nil ⟨by kernel_rfl, ?_⟩
  repeat refine AW.seq ?_
  refine AW.reg (nx' := 1) (by kernel_rfl) ?_
  refine SK.p rfl rfl (by first | exact ok_fieldAddr (k := 2) (n := 0) (bb := false) rfl (by kernel_rfl) (Ev.tmp (Look.of rfl)) (by first | exact Nat.zero_add _ | rfl) | exact ok_fieldAddr_rp (k := 2) (n := 0) (bb := false) rfl (by kernel_rfl) (Ev.tmp (Look.of rfl)) (by first | assumption | rfl)) ?_
  refine SK.p rfl rfl (by first | exact ok_load rfl (by kernel_rfl) (Ev.tmp (Look.of rfl)) (Look.of rfl) (by first | rfl | assumption) | exact ok_load_rp rfl (by kernel_rfl) (Ev.tmp (Look.of rfl)) (by first | rfl | assumption)) ?_
  refine SK.p rfl rfl (by first | exact ok_fieldAddr (k := 3) (n := 0) (bb := false) rfl (by kernel_rfl) (Ev.tmp (Look.of rfl)) (by first | exact Nat.zero_add _ | rfl) | exact ok_fieldAddr_rp (k := 3) (n := 0) (bb := false) rfl (by kernel_rfl) (Ev.tmp (Look.of rfl)) (by first | assumption | rfl)) ?_
  refine SK.p rfl rfl (by first | exact ok_load rfl (by kernel_rfl) (Ev.tmp (Look.of rfl)) (Look.of rfl) (by first | rfl | assumption) | exact ok_load_rp rfl (by kernel_rfl) (Ev.tmp (Look.of rfl)) (by first | rfl | assumption)) ?_
  refine SK.p rfl rfl (by first | exact ok_bin rfl (Ev.tmp (Look.of rfl)) (Ev.tmp (Look.of rfl)) (r_sub (by first | assumption | exact IntWalk.i64_in _ (by omega) | rfl)) rfl) ?_
  refine SK.p rfl rfl (ok_assign rfl (Ev.tmp (Look.of rfl))) ?_
  refine SK.nil ⟨by kernel_rfl, ?_⟩
  exact AW.ret ⟨.inr rfl, _, fun b => b, (.cons (.tmp (Look.of rfl)) .nil), (by first | rfl | assumption | simp [mapPV, mapE, mapC, pvOf]), (by first | rfl | assumption), (RenG.base (fun b h => by first | exact absurd h (Nat.not_lt_zero _) | (have h0 : b = 0 := Nat.lt_one_iff.mp h; subst h0; rfl)) (Nat.le_of_ble_eq_true rfl))⟩
set_option maxHeartbeats 4000000 in
theorem F_cut (ch f t n : Nat) (l : List Int) (hft : f ≤ t) (ht : t * ch ≤ n) (hn : n ≤ 10000000) :
    Fun 32 [.c (.d (.sl (dI .i32 l) n)), .c (vI ch), .c (vI f), .c (vI t)] [] 0 (.e (.c (.d (.sl (dI .i32 ((l.drop (f * ch)).take (t * ch - f * ch))) (t * ch - f * ch))))) [] 0 := by
  have hfc : f * ch ≤ t * ch := Nat.mul_le_mul_right _ hft
  have e1 : IntKind.i64.wrap ((f : Int) * (ch : Int)) = ((f * ch : Nat) : Int) := by rw [← Int.natCast_mul]; exact IntWalk.i64_in _ (by omega)
  have e2 : IntKind.i64.wrap ((t : Int) * (ch : Int)) = ((t * ch : Nat) : Int) := by rw [← Int.natCast_mul]; exact IntWalk.i64_in _ (by omega)
  refine Fun.mk (n := 20) Try.func32 rfl rfl (Nat.le_of_ble_eq_true rfl) ?_
  intro cx hcx
  simp only [argSlots, Nat.reduceAdd]
  repeat refine AW.seq ?_
  refine AW.reg (nx' := 0) (by kernel_rfl) ?_
  refine SK.p rfl rfl (ok_assign rfl (Ev.lit rfl)) ?_
  refine SK.nil ⟨by kernel_rfl, ?_⟩
  repeat refine AW.seq ?_
  refine AW.reg (nx' := 0) (by kernel_rfl) ?_
  refine SK.p rfl rfl (ok_move rfl (Ev.tmp (Look.of rfl))) ?_
  refine SK.p rfl rfl (ok_move rfl (Ev.tmp (Look.of rfl))) ?_
  refine SK.p rfl rfl (ok_move rfl (Ev.tmp (Look.of rfl))) ?_
  refine SK.p rfl rfl (by first | exact ok_bin rfl (Ev.tmp (Look.of rfl)) (Ev.tmp (Look.of rfl)) (r_mul (by first | assumption | exact IntWalk.i64_in _ (by omega) | rfl)) rfl) ?_
  refine SK.p rfl rfl (ok_move rfl (Ev.tmp (Look.of rfl))) ?_
  refine SK.p rfl rfl (ok_move rfl (Ev.tmp (Look.of rfl))) ?_
  refine SK.p rfl rfl (by first | exact ok_bin rfl (Ev.tmp (Look.of rfl)) (Ev.tmp (Look.of rfl)) (r_mul (by first | assumption | exact IntWalk.i64_in _ (by omega) | rfl)) rfl) ?_
  refine SK.p rfl rfl (ok_move rfl (Ev.tmp (Look.of rfl))) ?_
  refine SK.p rfl rfl (ok_move rfl (Ev.tmp (Look.of rfl))) ?_
  refine SK.p rfl rfl (by first | exact ok_bin rfl (Ev.tmp (Look.of rfl)) (Ev.tmp (Look.of rfl)) (r_mul (by first | assumption | exact IntWalk.i64_in _ (by omega) | rfl)) rfl) ?_
  refine SK.p rfl rfl (by first | exact ok_slice_sl (e := 21) (s := 1) (bb := false) rfl (by kernel_rfl) (by kernel_rfl) (Ev.tmp (Look.of rfl)) (Bd.yes (Ev.tmp (Look.of rfl)) (by first | rfl | assumption | omega)) (Bd.yes (Ev.tmp (Look.of rfl)) (by first | rfl | assumption | omega)) (Mx.yes rfl rfl (Ev.tmp (Look.of rfl)) (by first | rfl | assumption | omega)) (by omega) (by omega) (by first | assumption | exact Nat.sub_zero _ | rfl) (by first | assumption | (simp only [Nat.mul_one, Nat.zero_mul, List.drop_zero, dI_take, dI_drop]; rfl) | rfl) | exact ok_slice (e := 21) (s := 1) (bb := false) rfl (by kernel_rfl) (by kernel_rfl) (Ev.tmp (Look.of rfl)) (Bd.yes (Ev.tmp (Look.of rfl)) (by first | rfl | assumption | omega)) (Bd.yes (Ev.tmp (Look.of rfl)) (by first | rfl | assumption | omega)) (Mx.yes rfl rfl (Ev.tmp (Look.of rfl)) (by first | rfl | assumption | omega)) (by omega) (by omega) (by first | assumption | (simp only [Nat.mul_one, Nat.zero_mul, Nat.zero_add]; rfl) | rfl) (by first | assumption | exact Nat.sub_zero _ | rfl) | exact ok_slice_nil (e := 21) (s := 1) (bb := false) rfl (by kernel_rfl) (by kernel_rfl) (Ev.tmp (Look.of rfl)) (Bd.yes (Ev.tmp (Look.of rfl)) (by first | rfl | assumption | omega)) (Bd.yes (Ev.tmp (Look.of rfl)) (by first | rfl | assumption | omega)) (Mx.yes rfl rfl (Ev.tmp (Look.of rfl)) (by first | rfl | assumption | omega))) ?_
  refine SK.p rfl rfl (ok_assign rfl (Ev.tmp (Look.of rfl))) ?_
  refine SK.nil ⟨by kernel_rfl, ?_⟩
  exact AW.ret ⟨.inr rfl, _, fun b => b, (.cons (.tmp (Look.of rfl)) .nil), (by first | rfl | assumption | simp [mapPV, mapE, mapC, pvOf]), (by first | rfl | assumption), (RenG.base (fun b h => by first | exact absurd h (Nat.not_lt_zero _) | (have h0 : b = 0 := Nat.lt_one_iff.mp h; subst h0; rfl)) (Nat.le_of_ble_eq_true rfl))⟩
set_option maxHeartbeats 4000000 in
theorem F_block (ch cap wr rd : Int) (x : D) :
    Fun 36 [ringA ch cap wr rd (.d x)] [] 0 (.e (blkA ch (.d x))) [] 0 := by
  refine Fun.mk (n := 8) Try.func36 rfl rfl (Nat.le_of_ble_eq_true rfl) ?_
  intro cx hcx
  simp only [argSlots, Nat.reduceAdd]
  repeat refine AW.seq ?_
  refine AW.reg (nx' := 2) (by kernel_rfl) ?_
  refine SK.w1 rfl rfl (by first | exact ok_box_agg (nx := 0) rfl (Ev.tmp (Look.of rfl)) | exact ok_box_c (nx := 0) rfl (Ev.tmp (Look.of rfl))) ?_
  refine SK.w1 rfl rfl (ok_alloc' (nx := 1) (zs := [.int .i64 0, .slice none 0 0]) (cs := [LC (.int .i64 0), LC (.slice none 0 0)]) rfl (by kernel_rfl) rfl rfl) ?_
  refine SK.nil ⟨by kernel_rfl, ?_⟩
  repeat refine AW.seq ?_
  refine AW.reg (nx' := 2) (by kernel_rfl) ?_
  refine SK.p rfl rfl (by first | exact ok_fieldAddr (k := 0) (n := 0) (bb := false) rfl (by kernel_rfl) (Ev.tmp (Look.of rfl)) (by first | exact Nat.zero_add _ | rfl) | exact ok_fieldAddr_rp (k := 0) (n := 0) (bb := false) rfl (by kernel_rfl) (Ev.tmp (Look.of rfl)) (by first | assumption | rfl)) ?_
  refine SK.p rfl rfl (by first | exact ok_load rfl (by kernel_rfl) (Ev.tmp (Look.of rfl)) (Look.of rfl) (by first | rfl | assumption) | exact ok_load_rp rfl (by kernel_rfl) (Ev.tmp (Look.of rfl)) (by first | rfl | assumption)) ?_
  refine SK.p rfl rfl (by first | exact ok_fieldAddr (k := 4) (n := 0) (bb := false) rfl (by kernel_rfl) (Ev.tmp (Look.of rfl)) (by first | exact Nat.zero_add _ | rfl) | exact ok_fieldAddr_rp (k := 4) (n := 0) (bb := false) rfl (by kernel_rfl) (Ev.tmp (Look.of rfl)) (by first | assumption | rfl)) ?_
  refine SK.p rfl rfl (by first | exact ok_load rfl (by kernel_rfl) (Ev.tmp (Look.of rfl)) (Look.of rfl) (by first | rfl | assumption) | exact ok_load_rp rfl (by kernel_rfl) (Ev.tmp (Look.of rfl)) (by first | rfl | assumption)) ?_
  refine SK.p rfl rfl (ok_build (places := [(0, 1), (1, 1)]) (zs := [.int .i64 0, .slice none 0 0]) rfl ⟨_, Try.underlying26, fun w => by kernel_rfl⟩ (by kernel_rfl) rfl (EvL.cons (Ev.tmp (Look.of rfl)) (EvL.cons (Ev.tmp (Look.of rfl)) EvL.nil)) (by first | (simp +decide only [fillC, updC, cellsOf1, List.map_cons, List.map_nil, List.length_cons, List.length_nil, List.set_cons_zero, List.set_cons_succ, List.getElem?_cons_zero, List.getElem?_cons_succ, Nat.zero_add, Nat.add_zero, Nat.reduceAdd, Nat.reduceMul, Nat.reduceLeDiff, Nat.le_refl, and_self, and_true, true_and, if_true, ↓reduceIte]; done) | (simp +decide only [fillC, updC, cellsOf1, List.map_cons, List.map_nil, List.length_cons, List.length_nil, List.set_cons_zero, List.set_cons_succ, List.getElem?_cons_zero, List.getElem?_cons_succ, Nat.zero_add, Nat.add_zero, Nat.reduceAdd, Nat.reduceMul, Nat.reduceLeDiff, Nat.le_refl, and_self, and_true, true_and, if_true, ↓reduceIte]; rfl) | (simp [fillC, updC, cellsOf1]; rfl) | rfl)) ?_
  refine SK.n rfl rfl (by first | exact ok_store_all (n := 2) rfl (by kernel_rfl) (Ev.tmp (Look.of rfl)) (Ev.tmp (Look.of rfl)) (Look.of rfl) rfl rfl | exact ok_store (n := 2) (bb := true) rfl (by kernel_rfl) (Ev.tmp (Look.of rfl)) (Ev.tmp (Look.of rfl)) (Look.of rfl) rfl (by first | exact Nat.le_of_ble_eq_true rfl | assumption | (simp only [cI_len, dI_len, List.length_map, List.length_append, List.length_cons, List.length_nil]; omega) | omega) (by first | assumption | (simp only [updC, cellsOf1, List.set_cons_zero, List.set_cons_succ]; rfl) | rfl)) ?_
  refine SK.nil ⟨by kernel_rfl, ?_⟩
  exact AW.ret ⟨.inr rfl, _, fun b => b, (.cons (.agg (n := 2) (Look.of rfl) (by kernel_rfl) (Look.of rfl) rfl rfl) .nil), (by first | rfl | assumption | simp [mapPV, mapE, mapC, pvOf]), (by first | rfl | assumption), (RenG.base (fun b h => by first | exact absurd h (Nat.not_lt_zero _) | (have h0 : b = 0 := Nat.lt_one_iff.mp h; subst h0; rfl)) (Nat.le_of_ble_eq_true rfl))⟩
set_option maxHeartbeats 4000000 in
theorem F_isSample (s : Int) : Fun 37 [.c (LC (.int .i32 s))] [] 0 (LV (.bool (smpB s))) [] 0 := by
  cases hb : smpB s with
  | true =>
    have h := smp_yes hb
    refine Fun.mk (n := 9) Try.func37 rfl rfl (Nat.le_of_ble_eq_true rfl) ?_
    intro cx hcx
    simp only [argSlots, Nat.reduceAdd]
    repeat refine AW.seq ?_
    refine AW.reg (nx' := 0) (by kernel_rfl) ?_
    refine SK.p rfl rfl (ok_assign rfl (Ev.lit rfl)) ?_
    refine SK.nil ⟨by kernel_rfl, ?_⟩
    repeat refine AW.seq ?_
    refine AW.reg (nx' := 0) (by kernel_rfl) ?_
    refine SK.p rfl rfl (ok_move rfl (Ev.tmp (Look.of rfl))) ?_
    refine SK.p rfl rfl (by first | exact ok_bin rfl (Ev.tmp (Look.of rfl)) (Ev.lit rfl) (r_geq (by first | assumption | exact decide_eq_true (by omega) | exact decide_eq_false (by omega) | rfl)) rfl) ?_
    refine SK.p rfl rfl (ok_move rfl (Ev.tmp (Look.of rfl))) ?_
    first | refine SK.gp rfl rfl rfl (Look.of rfl) rfl (ok_move rfl (Ev.tmp (Look.of rfl))) ?_ | refine SK.gn rfl rfl rfl (Look.of rfl) rfl rfl ?_
    first | refine SK.gp rfl rfl rfl (Look.of rfl) rfl (by first | exact ok_bin rfl (Ev.tmp (Look.of rfl)) (Ev.lit rfl) (r_leq (by first | assumption | exact decide_eq_true (by omega) | exact decide_eq_false (by omega) | rfl)) rfl) ?_ | refine SK.gn rfl rfl rfl (Look.of rfl) rfl rfl ?_
    refine SK.p rfl rfl (by first | exact ok_pick_t rfl (Ev.tmp (Look.of rfl)) (Ev.tmp (Look.of rfl)) | exact ok_pick_f rfl (Ev.tmp (Look.of rfl)) (Ev.lit rfl) | exact ok_pick rfl (Ev.tmp (Look.of rfl)) (Ev.tmp (Look.of rfl)) (Ev.lit rfl)) ?_
    refine SK.p rfl rfl (ok_assign rfl (Ev.tmp (Look.of rfl))) ?_
    refine SK.nil ⟨by kernel_rfl, ?_⟩
    exact AW.ret ⟨.inr rfl, _, fun b => b, (.cons (.tmp (Look.of rfl)) .nil), (by first | rfl | assumption | simp [mapPV, mapE, mapC, pvOf]), (by first | rfl | assumption), (RenG.base (fun b h => by first | exact absurd h (Nat.not_lt_zero _) | (have h0 : b = 0 := Nat.lt_one_iff.mp h; subst h0; rfl)) (Nat.le_of_ble_eq_true rfl))⟩
  | false =>
    rcases smp_no hb with h | h
    · skip
      refine Fun.mk (n := 9) Try.func37 rfl rfl (Nat.le_of_ble_eq_true rfl) ?_
      intro cx hcx
      simp only [argSlots, Nat.reduceAdd]
      repeat refine AW.seq ?_
      refine AW.reg (nx' := 0) (by kernel_rfl) ?_
      refine SK.p rfl rfl (ok_assign rfl (Ev.lit rfl)) ?_
      refine SK.nil ⟨by kernel_rfl, ?_⟩
      repeat refine AW.seq ?_
      refine AW.reg (nx' := 0) (by kernel_rfl) ?_
      refine SK.p rfl rfl (ok_move rfl (Ev.tmp (Look.of rfl))) ?_
      refine SK.p rfl rfl (by first | exact ok_bin rfl (Ev.tmp (Look.of rfl)) (Ev.lit rfl) (r_geq (by first | assumption | exact decide_eq_true (by omega) | exact decide_eq_false (by omega) | rfl)) rfl) ?_
      refine SK.p rfl rfl (ok_move rfl (Ev.tmp (Look.of rfl))) ?_
      first | refine SK.gp rfl rfl rfl (Look.of rfl) rfl (ok_move rfl (Ev.tmp (Look.of rfl))) ?_ | refine SK.gn rfl rfl rfl (Look.of rfl) rfl rfl ?_
      first | refine SK.gp rfl rfl rfl (Look.of rfl) rfl (by first | exact ok_bin rfl (Ev.tmp (Look.of rfl)) (Ev.lit rfl) (r_leq (by first | assumption | exact decide_eq_true (by omega) | exact decide_eq_false (by omega) | rfl)) rfl) ?_ | refine SK.gn rfl rfl rfl (Look.of rfl) rfl rfl ?_
      refine SK.p rfl rfl (by first | exact ok_pick_t rfl (Ev.tmp (Look.of rfl)) (Ev.tmp (Look.of rfl)) | exact ok_pick_f rfl (Ev.tmp (Look.of rfl)) (Ev.lit rfl) | exact ok_pick rfl (Ev.tmp (Look.of rfl)) (Ev.tmp (Look.of rfl)) (Ev.lit rfl)) ?_
      refine SK.p rfl rfl (ok_assign rfl (Ev.tmp (Look.of rfl))) ?_
      refine SK.nil ⟨by kernel_rfl, ?_⟩
      exact AW.ret ⟨.inr rfl, _, fun b => b, (.cons (.tmp (Look.of rfl)) .nil), (by first | rfl | assumption | simp [mapPV, mapE, mapC, pvOf]), (by first | rfl | assumption), (RenG.base (fun b h => by first | exact absurd h (Nat.not_lt_zero _) | (have h0 : b = 0 := Nat.lt_one_iff.mp h; subst h0; rfl)) (Nat.le_of_ble_eq_true rfl))⟩
    · have h2 : -8388608 ≤ s := by omega
      refine Fun.mk (n := 9) Try.func37 rfl rfl (Nat.le_of_ble_eq_true rfl) ?_
      intro cx hcx
      simp only [argSlots, Nat.reduceAdd]
      repeat refine AW.seq ?_
      refine AW.reg (nx' := 0) (by kernel_rfl) ?_
      refine SK.p rfl rfl (ok_assign rfl (Ev.lit rfl)) ?_
      refine SK.nil ⟨by kernel_rfl, ?_⟩
      repeat refine AW.seq ?_
      refine AW.reg (nx' := 0) (by kernel_rfl) ?_
      refine SK.p rfl rfl (ok_move rfl (Ev.tmp (Look.of rfl))) ?_
      refine SK.p rfl rfl (by first | exact ok_bin rfl (Ev.tmp (Look.of rfl)) (Ev.lit rfl) (r_geq (by first | assumption | exact decide_eq_true (by omega) | exact decide_eq_false (by omega) | rfl)) rfl) ?_
      refine SK.p rfl rfl (ok_move rfl (Ev.tmp (Look.of rfl))) ?_
      first | refine SK.gp rfl rfl rfl (Look.of rfl) rfl (ok_move rfl (Ev.tmp (Look.of rfl))) ?_ | refine SK.gn rfl rfl rfl (Look.of rfl) rfl rfl ?_
      first | refine SK.gp rfl rfl rfl (Look.of rfl) rfl (by first | exact ok_bin rfl (Ev.tmp (Look.of rfl)) (Ev.lit rfl) (r_leq (by first | assumption | exact decide_eq_true (by omega) | exact decide_eq_false (by omega) | rfl)) rfl) ?_ | refine SK.gn rfl rfl rfl (Look.of rfl) rfl rfl ?_
      refine SK.p rfl rfl (by first | exact ok_pick_t rfl (Ev.tmp (Look.of rfl)) (Ev.tmp (Look.of rfl)) | exact ok_pick_f rfl (Ev.tmp (Look.of rfl)) (Ev.lit rfl) | exact ok_pick rfl (Ev.tmp (Look.of rfl)) (Ev.tmp (Look.of rfl)) (Ev.lit rfl)) ?_
      refine SK.p rfl rfl (ok_assign rfl (Ev.tmp (Look.of rfl))) ?_
      refine SK.nil ⟨by kernel_rfl, ?_⟩
      exact AW.ret ⟨.inr rfl, _, fun b => b, (.cons (.tmp (Look.of rfl)) .nil), (by first | rfl | assumption | simp [mapPV, mapE, mapC, pvOf]), (by first | rfl | assumption), (RenG.base (fun b h => by first | exact absurd h (Nat.not_lt_zero _) | (have h0 : b = 0 := Nat.lt_one_iff.mp h; subst h0; rfl)) (Nat.le_of_ble_eq_true rfl))⟩
set_option maxHeartbeats 4000000 in
theorem F_rsample (s : Int) : Fun 38 [.c (LC (.int .i32 s))] [] 0 (LV (.bool (smpB s))) [] 0 := by
  cases hb : smpB s with
  | true =>
    have h := smp_yes hb
    refine Fun.mk (n := 9) Try.func38 rfl rfl (Nat.le_of_ble_eq_true rfl) ?_
    intro cx hcx
    simp only [argSlots, Nat.reduceAdd]
    repeat refine AW.seq ?_
    refine AW.reg (nx' := 0) (by kernel_rfl) ?_
    refine SK.p rfl rfl (ok_assign rfl (Ev.lit rfl)) ?_
    refine SK.nil ⟨by kernel_rfl, ?_⟩
    repeat refine AW.seq ?_
    refine AW.reg (nx' := 0) (by kernel_rfl) ?_
    refine SK.p rfl rfl (ok_move rfl (Ev.tmp (Look.of rfl))) ?_
    refine SK.p rfl rfl (by first | exact ok_bin rfl (Ev.tmp (Look.of rfl)) (Ev.lit rfl) (r_geq (by first | assumption | exact decide_eq_true (by omega) | exact decide_eq_false (by omega) | rfl)) rfl) ?_
    refine SK.p rfl rfl (ok_move rfl (Ev.tmp (Look.of rfl))) ?_
    first | refine SK.gp rfl rfl rfl (Look.of rfl) rfl (ok_move rfl (Ev.tmp (Look.of rfl))) ?_ | refine SK.gn rfl rfl rfl (Look.of rfl) rfl rfl ?_
    first | refine SK.gp rfl rfl rfl (Look.of rfl) rfl (by first | exact ok_bin rfl (Ev.tmp (Look.of rfl)) (Ev.lit rfl) (r_leq (by first | assumption | exact decide_eq_true (by omega) | exact decide_eq_false (by omega) | rfl)) rfl) ?_ | refine SK.gn rfl rfl rfl (Look.of rfl) rfl rfl ?_
    refine SK.p rfl rfl (by first | exact ok_pick_t rfl (Ev.tmp (Look.of rfl)) (Ev.tmp (Look.of rfl)) | exact ok_pick_f rfl (Ev.tmp (Look.of rfl)) (Ev.lit rfl) | exact ok_pick rfl (Ev.tmp (Look.of rfl)) (Ev.tmp (Look.of rfl)) (Ev.lit rfl)) ?_
    refine SK.p rfl rfl (ok_assign rfl (Ev.tmp (Look.of rfl))) ?_
    refine SK.nil ⟨by kernel_rfl, ?_⟩
    exact AW.ret ⟨.inr rfl, _, fun b => b, (.cons (.tmp (Look.of rfl)) .nil), (by first | rfl | assumption | simp [mapPV, mapE, mapC, pvOf]), (by first | rfl | assumption), (RenG.base (fun b h => by first | exact absurd h (Nat.not_lt_zero _) | (have h0 : b = 0 := Nat.lt_one_iff.mp h; subst h0; rfl)) (Nat.le_of_ble_eq_true rfl))⟩
  | false =>
    rcases smp_no hb with h | h
    · skip
      refine Fun.mk (n := 9) Try.func38 rfl rfl (Nat.le_of_ble_eq_true rfl) ?_
      intro cx hcx
      simp only [argSlots, Nat.reduceAdd]
      repeat refine AW.seq ?_
      refine AW.reg (nx' := 0) (by kernel_rfl) ?_
      refine SK.p rfl rfl (ok_assign rfl (Ev.lit rfl)) ?_
      refine SK.nil ⟨by kernel_rfl, ?_⟩
      repeat refine AW.seq ?_
      refine AW.reg (nx' := 0) (by kernel_rfl) ?_
      refine SK.p rfl rfl (ok_move rfl (Ev.tmp (Look.of rfl))) ?_
      refine SK.p rfl rfl (by first | exact ok_bin rfl (Ev.tmp (Look.of rfl)) (Ev.lit rfl) (r_geq (by first | assumption | exact decide_eq_true (by omega) | exact decide_eq_false (by omega) | rfl)) rfl) ?_
      refine SK.p rfl rfl (ok_move rfl (Ev.tmp (Look.of rfl))) ?_
      first | refine SK.gp rfl rfl rfl (Look.of rfl) rfl (ok_move rfl (Ev.tmp (Look.of rfl))) ?_ | refine SK.gn rfl rfl rfl (Look.of rfl) rfl rfl ?_
      first | refine SK.gp rfl rfl rfl (Look.of rfl) rfl (by first | exact ok_bin rfl (Ev.tmp (Look.of rfl)) (Ev.lit rfl) (r_leq (by first | assumption | exact decide_eq_true (by omega) | exact decide_eq_false (by omega) | rfl)) rfl) ?_ | refine SK.gn rfl rfl rfl (Look.of rfl) rfl rfl ?_
      refine SK.p rfl rfl (by first | exact ok_pick_t rfl (Ev.tmp (Look.of rfl)) (Ev.tmp (Look.of rfl)) | exact ok_pick_f rfl (Ev.tmp (Look.of rfl)) (Ev.lit rfl) | exact ok_pick rfl (Ev.tmp (Look.of rfl)) (Ev.tmp (Look.of rfl)) (Ev.lit rfl)) ?_
      refine SK.p rfl rfl (ok_assign rfl (Ev.tmp (Look.of rfl))) ?_
      refine SK.nil ⟨by kernel_rfl, ?_⟩
      exact AW.ret ⟨.inr rfl, _, fun b => b, (.cons (.tmp (Look.of rfl)) .nil), (by first | rfl | assumption | simp [mapPV, mapE, mapC, pvOf]), (by first | rfl | assumption), (RenG.base (fun b h => by first | exact absurd h (Nat.not_lt_zero _) | (have h0 : b = 0 := Nat.lt_one_iff.mp h; subst h0; rfl)) (Nat.le_of_ble_eq_true rfl))⟩
    · have h2 : -8388608 ≤ s := by omega
      refine Fun.mk (n := 9) Try.func38 rfl rfl (Nat.le_of_ble_eq_true rfl) ?_
      intro cx hcx
      simp only [argSlots, Nat.reduceAdd]
      repeat refine AW.seq ?_
      refine AW.reg (nx' := 0) (by kernel_rfl) ?_
      refine SK.p rfl rfl (ok_assign rfl (Ev.lit rfl)) ?_
      refine SK.nil ⟨by kernel_rfl, ?_⟩
      repeat refine AW.seq ?_
      refine AW.reg (nx' := 0) (by kernel_rfl) ?_
      refine SK.p rfl rfl (ok_move rfl (Ev.tmp (Look.of rfl))) ?_
      refine SK.p rfl rfl (by first | exact ok_bin rfl (Ev.tmp (Look.of rfl)) (Ev.lit rfl) (r_geq (by first | assumption | exact decide_eq_true (by omega) | exact decide_eq_false (by omega) | rfl)) rfl) ?_
      refine SK.p rfl rfl (ok_move rfl (Ev.tmp (Look.of rfl))) ?_
      first | refine SK.gp rfl rfl rfl (Look.of rfl) rfl (ok_move rfl (Ev.tmp (Look.of rfl))) ?_ | refine SK.gn rfl rfl rfl (Look.of rfl) rfl rfl ?_
      first | refine SK.gp rfl rfl rfl (Look.of rfl) rfl (by first | exact ok_bin rfl (Ev.tmp (Look.of rfl)) (Ev.lit rfl) (r_leq (by first | assumption | exact decide_eq_true (by omega) | exact decide_eq_false (by omega) | rfl)) rfl) ?_ | refine SK.gn rfl rfl rfl (Look.of rfl) rfl rfl ?_
      refine SK.p rfl rfl (by first | exact ok_pick_t rfl (Ev.tmp (Look.of rfl)) (Ev.tmp (Look.of rfl)) | exact ok_pick_f rfl (Ev.tmp (Look.of rfl)) (Ev.lit rfl) | exact ok_pick rfl (Ev.tmp (Look.of rfl)) (Ev.tmp (Look.of rfl)) (Ev.lit rfl)) ?_
      refine SK.p rfl rfl (ok_assign rfl (Ev.tmp (Look.of rfl))) ?_
      refine SK.nil ⟨by kernel_rfl, ?_⟩
      exact AW.ret ⟨.inr rfl, _, fun b => b, (.cons (.tmp (Look.of rfl)) .nil), (by first | rfl | assumption | simp [mapPV, mapE, mapC, pvOf]), (by first | rfl | assumption), (RenG.base (fun b h => by first | exact absurd h (Nat.not_lt_zero _) | (have h0 : b = 0 := Nat.lt_one_iff.mp h; subst h0; rfl)) (Nat.le_of_ble_eq_true rfl))⟩
/-- a block of f frames -/
structure BV (ch f : Nat) (l : List Int) : Prop where
  c1 : 1 ≤ ch
  c8 : ch ≤ 8
  len : l.length = f * ch
  fit : f ≤ 65536
  smp : ∀ x ∈ l, smpB x = true
set_option maxHeartbeats 4000000 in
theorem F_valid (ch f : Nat) (l : List Int) (h : BV ch f l) : Fun 29 [blkA ch (slI l)] [] 0 (LV (.bool true)) [] 0 := by
  obtain ⟨h1, h8, hl, hf, hs⟩ := h
  have hbig : l.length ≤ 524288 := by rw [hl]; exact Nat.le_trans (Nat.mul_le_mul hf h8) (by omega)
  have hrem : ((l.length : Nat) : Int).tmod (ch : Int) = 0 := by rw [Int.tmod_eq_emod_of_nonneg (by omega), hl, Int.natCast_mul]; exact Int.mul_emod_left _ _
  have hquo : IntKind.i64.wrap (((l.length : Nat) : Int).tdiv (ch : Int)) = (f : Int) := by
    rw [Int.tdiv_eq_ediv_of_nonneg (by omega), hl, Int.natCast_mul, Int.mul_ediv_cancel _ (by omega)]; exact IntWalk.i64_in _ (by omega)
  clear hl
  refine Fun.mk (n := 42) Try.func29 rfl rfl (Nat.le_of_ble_eq_true rfl) ?_
  intro cx hcx
  simp only [argSlots, Nat.reduceAdd]
  repeat refine AW.seq ?_
  refine AW.reg (nx' := 1) (by kernel_rfl) ?_
  refine SK.w1 rfl rfl (by first | exact ok_box_agg (nx := 0) rfl (Ev.tmp (Look.of rfl)) | exact ok_box_c (nx := 0) rfl (Ev.tmp (Look.of rfl))) ?_
  refine SK.p rfl rfl (ok_assign rfl (Ev.lit rfl)) ?_
  refine SK.nil ⟨by kernel_rfl, ?_⟩
  repeat refine AW.seq ?_
  refine AW.reg (nx' := 1) (by kernel_rfl) ?_
  refine SK.p rfl rfl (by first | exact ok_fieldAddr (k := 0) (n := 0) (bb := false) rfl (by kernel_rfl) (Ev.tmp (Look.of rfl)) (by first | exact Nat.zero_add _ | rfl) | exact ok_fieldAddr_rp (k := 0) (n := 0) (bb := false) rfl (by kernel_rfl) (Ev.tmp (Look.of rfl)) (by first | assumption | rfl)) ?_
  refine SK.p rfl rfl (by first | exact ok_load rfl (by kernel_rfl) (Ev.tmp (Look.of rfl)) (Look.of rfl) (by first | rfl | assumption) | exact ok_load_rp rfl (by kernel_rfl) (Ev.tmp (Look.of rfl)) (by first | rfl | assumption)) ?_
  refine SK.p rfl rfl (by first | exact ok_bin rfl (Ev.tmp (Look.of rfl)) (Ev.lit rfl) (r_lss (by first | assumption | exact decide_eq_true (by omega) | exact decide_eq_false (by omega) | rfl)) rfl) ?_
  refine SK.p rfl rfl (ok_move rfl (Ev.tmp (Look.of rfl))) ?_
  first | refine SK.gp rfl rfl rfl (Look.of rfl) rfl (by first | exact ok_fieldAddr (k := 0) (n := 0) (bb := false) rfl (by kernel_rfl) (Ev.tmp (Look.of rfl)) (by first | exact Nat.zero_add _ | rfl) | exact ok_fieldAddr_rp (k := 0) (n := 0) (bb := false) rfl (by kernel_rfl) (Ev.tmp (Look.of rfl)) (by first | assumption | rfl)) ?_ | refine SK.gn rfl rfl rfl (Look.of rfl) rfl rfl ?_
  first | refine SK.gp rfl rfl rfl (Look.of rfl) rfl (by first | exact ok_load rfl (by kernel_rfl) (Ev.tmp (Look.of rfl)) (Look.of rfl) (by first | rfl | assumption) | exact ok_load_rp rfl (by kernel_rfl) (Ev.tmp (Look.of rfl)) (by first | rfl | assumption)) ?_ | refine SK.gn rfl rfl rfl (Look.of rfl) rfl rfl ?_
  first | refine SK.gp rfl rfl rfl (Look.of rfl) rfl (by first | exact ok_bin rfl (Ev.tmp (Look.of rfl)) (Ev.lit rfl) (r_gtr (by first | assumption | exact decide_eq_true (by omega) | exact decide_eq_false (by omega) | rfl)) rfl) ?_ | refine SK.gn rfl rfl rfl (Look.of rfl) rfl rfl ?_
  refine SK.p rfl rfl (by first | exact ok_pick_t rfl (Ev.tmp (Look.of rfl)) (Ev.lit rfl) | exact ok_pick_f rfl (Ev.tmp (Look.of rfl)) (Ev.tmp (Look.of rfl)) | exact ok_pick rfl (Ev.tmp (Look.of rfl)) (Ev.lit rfl) (Ev.tmp (Look.of rfl))) ?_
  refine SK.p rfl rfl (ok_move rfl (Ev.tmp (Look.of rfl))) ?_
  first | refine SK.gp rfl rfl rfl (Look.of rfl) rfl (by first | exact ok_fieldAddr (k := 1) (n := 0) (bb := false) rfl (by kernel_rfl) (Ev.tmp (Look.of rfl)) (by first | exact Nat.zero_add _ | rfl) | exact ok_fieldAddr_rp (k := 1) (n := 0) (bb := false) rfl (by kernel_rfl) (Ev.tmp (Look.of rfl)) (by first | assumption | rfl)) ?_ | refine SK.gn rfl rfl rfl (Look.of rfl) rfl rfl ?_
  first | refine SK.gp rfl rfl rfl (Look.of rfl) rfl (by first | exact ok_load rfl (by kernel_rfl) (Ev.tmp (Look.of rfl)) (Look.of rfl) (by first | rfl | assumption) | exact ok_load_rp rfl (by kernel_rfl) (Ev.tmp (Look.of rfl)) (by first | rfl | assumption)) ?_ | refine SK.gn rfl rfl rfl (Look.of rfl) rfl rfl ?_
  first | refine SK.gp rfl rfl rfl (Look.of rfl) rfl (by first | exact ok_len (ts := #[]) (ty := 0) rfl (by kernel_rfl) (Ev.tmp (Look.of rfl)) len_sl | exact ok_len (ts := #[]) (ty := 0) rfl (by kernel_rfl) (Ev.tmp (Look.of rfl)) len_own | exact ok_len (ts := #[]) (ty := 0) rfl (by kernel_rfl) (Ev.tmp (Look.of rfl)) len_nil) ?_ | refine SK.gn rfl rfl rfl (Look.of rfl) rfl rfl ?_
  first | refine SK.gp rfl rfl rfl (Look.of rfl) rfl (by first | exact ok_fieldAddr (k := 0) (n := 0) (bb := false) rfl (by kernel_rfl) (Ev.tmp (Look.of rfl)) (by first | exact Nat.zero_add _ | rfl) | exact ok_fieldAddr_rp (k := 0) (n := 0) (bb := false) rfl (by kernel_rfl) (Ev.tmp (Look.of rfl)) (by first | assumption | rfl)) ?_ | refine SK.gn rfl rfl rfl (Look.of rfl) rfl rfl ?_
  first | refine SK.gp rfl rfl rfl (Look.of rfl) rfl (by first | exact ok_load rfl (by kernel_rfl) (Ev.tmp (Look.of rfl)) (Look.of rfl) (by first | rfl | assumption) | exact ok_load_rp rfl (by kernel_rfl) (Ev.tmp (Look.of rfl)) (by first | rfl | assumption)) ?_ | refine SK.gn rfl rfl rfl (Look.of rfl) rfl rfl ?_
  first | refine SK.gp rfl rfl rfl (Look.of rfl) rfl (by first | exact ok_bin rfl (Ev.tmp (Look.of rfl)) (Ev.tmp (Look.of rfl)) (r_rem (by first | assumption | omega) (by first | assumption | rfl)) rfl) ?_ | refine SK.gn rfl rfl rfl (Look.of rfl) rfl rfl ?_
  first | refine SK.gp rfl rfl rfl (Look.of rfl) rfl (by first | exact ok_bin rfl (Ev.tmp (Look.of rfl)) (Ev.lit rfl) (r_neq (by first | assumption | exact decide_eq_true (by omega) | exact decide_eq_false (by omega) | rfl)) rfl | exact ok_bin rfl (Ev.tmp (Look.of rfl)) (Ev.lit rfl) (r_bneq (by kernel_rfl) rfl) rfl) ?_ | refine SK.gn rfl rfl rfl (Look.of rfl) rfl rfl ?_
  refine SK.p rfl rfl (by first | exact ok_pick_t rfl (Ev.tmp (Look.of rfl)) (Ev.lit rfl) | exact ok_pick_f rfl (Ev.tmp (Look.of rfl)) (Ev.tmp (Look.of rfl)) | exact ok_pick rfl (Ev.tmp (Look.of rfl)) (Ev.lit rfl) (Ev.tmp (Look.of rfl))) ?_
  refine SK.p rfl rfl (ok_move rfl (Ev.tmp (Look.of rfl))) ?_
  first | refine SK.gp rfl rfl rfl (Look.of rfl) rfl (by first | exact ok_fieldAddr (k := 1) (n := 0) (bb := false) rfl (by kernel_rfl) (Ev.tmp (Look.of rfl)) (by first | exact Nat.zero_add _ | rfl) | exact ok_fieldAddr_rp (k := 1) (n := 0) (bb := false) rfl (by kernel_rfl) (Ev.tmp (Look.of rfl)) (by first | assumption | rfl)) ?_ | refine SK.gn rfl rfl rfl (Look.of rfl) rfl rfl ?_
  first | refine SK.gp rfl rfl rfl (Look.of rfl) rfl (by first | exact ok_load rfl (by kernel_rfl) (Ev.tmp (Look.of rfl)) (Look.of rfl) (by first | rfl | assumption) | exact ok_load_rp rfl (by kernel_rfl) (Ev.tmp (Look.of rfl)) (by first | rfl | assumption)) ?_ | refine SK.gn rfl rfl rfl (Look.of rfl) rfl rfl ?_
  first | refine SK.gp rfl rfl rfl (Look.of rfl) rfl (by first | exact ok_len (ts := #[]) (ty := 0) rfl (by kernel_rfl) (Ev.tmp (Look.of rfl)) len_sl | exact ok_len (ts := #[]) (ty := 0) rfl (by kernel_rfl) (Ev.tmp (Look.of rfl)) len_own | exact ok_len (ts := #[]) (ty := 0) rfl (by kernel_rfl) (Ev.tmp (Look.of rfl)) len_nil) ?_ | refine SK.gn rfl rfl rfl (Look.of rfl) rfl rfl ?_
  first | refine SK.gp rfl rfl rfl (Look.of rfl) rfl (by first | exact ok_fieldAddr (k := 0) (n := 0) (bb := false) rfl (by kernel_rfl) (Ev.tmp (Look.of rfl)) (by first | exact Nat.zero_add _ | rfl) | exact ok_fieldAddr_rp (k := 0) (n := 0) (bb := false) rfl (by kernel_rfl) (Ev.tmp (Look.of rfl)) (by first | assumption | rfl)) ?_ | refine SK.gn rfl rfl rfl (Look.of rfl) rfl rfl ?_
  first | refine SK.gp rfl rfl rfl (Look.of rfl) rfl (by first | exact ok_load rfl (by kernel_rfl) (Ev.tmp (Look.of rfl)) (Look.of rfl) (by first | rfl | assumption) | exact ok_load_rp rfl (by kernel_rfl) (Ev.tmp (Look.of rfl)) (by first | rfl | assumption)) ?_ | refine SK.gn rfl rfl rfl (Look.of rfl) rfl rfl ?_
  first | refine SK.gp rfl rfl rfl (Look.of rfl) rfl (by first | exact ok_bin rfl (Ev.tmp (Look.of rfl)) (Ev.tmp (Look.of rfl)) (r_quo (by first | assumption | omega) (by first | assumption | exact IntWalk.i64_in _ (by omega) | rfl)) rfl) ?_ | refine SK.gn rfl rfl rfl (Look.of rfl) rfl rfl ?_
  first | refine SK.gp rfl rfl rfl (Look.of rfl) rfl (by first | exact ok_bin rfl (Ev.tmp (Look.of rfl)) (Ev.lit rfl) (r_gtr (by first | assumption | exact decide_eq_true (by omega) | exact decide_eq_false (by omega) | rfl)) rfl) ?_ | refine SK.gn rfl rfl rfl (Look.of rfl) rfl rfl ?_
  refine SK.p rfl rfl (by first | exact ok_pick_t rfl (Ev.tmp (Look.of rfl)) (Ev.lit rfl) | exact ok_pick_f rfl (Ev.tmp (Look.of rfl)) (Ev.tmp (Look.of rfl)) | exact ok_pick rfl (Ev.tmp (Look.of rfl)) (Ev.lit rfl) (Ev.tmp (Look.of rfl))) ?_
  refine SK.nil ⟨by kernel_rfl, ?_⟩
  repeat refine AW.seq ?_
  refine AW.cond_f (.tmp (Look.of rfl)) ?_
  repeat refine AW.seq ?_
  refine AW.skip ?_
  repeat refine AW.seq ?_
  refine AW.reg (nx' := 1) (by kernel_rfl) ?_
  refine SK.p rfl rfl (by first | exact ok_fieldAddr (k := 1) (n := 0) (bb := false) rfl (by kernel_rfl) (Ev.tmp (Look.of rfl)) (by first | exact Nat.zero_add _ | rfl) | exact ok_fieldAddr_rp (k := 1) (n := 0) (bb := false) rfl (by kernel_rfl) (Ev.tmp (Look.of rfl)) (by first | assumption | rfl)) ?_
  refine SK.p rfl rfl (by first | exact ok_load rfl (by kernel_rfl) (Ev.tmp (Look.of rfl)) (Look.of rfl) (by first | rfl | assumption) | exact ok_load_rp rfl (by kernel_rfl) (Ev.tmp (Look.of rfl)) (by first | rfl | assumption)) ?_
  refine SK.p rfl rfl (by first | exact ok_len (ts := #[]) (ty := 0) rfl (by kernel_rfl) (Ev.tmp (Look.of rfl)) len_sl | exact ok_len (ts := #[]) (ty := 0) rfl (by kernel_rfl) (Ev.tmp (Look.of rfl)) len_own | exact ok_len (ts := #[]) (ty := 0) rfl (by kernel_rfl) (Ev.tmp (Look.of rfl)) len_nil) ?_
  refine SK.p rfl rfl (ok_move rfl (Ev.lit rfl)) ?_
  refine SK.nil ⟨by kernel_rfl, ?_⟩
  repeat refine AW.seq ?_
  refine AW.block ?_
  refine AW.loop (α := {k : Nat // k ≤ l.length}) 0 hcx (fun k => ⟨[(1, .e (.c (.ptr 0 0))), (32, .e (.c (slI l))), (33, LV (.int .i64 (l.length : Nat))), (34, LV (.int .i64 (k.1 : Nat)))], [(0, some (26, [vI ch, slI l]))], 1⟩) (fun k => l.length - k.1) ⟨0, by omega⟩ ?_ ?_
  · skip
    exact ⟨fun b => b, (by repeat' (first | exact trivial | refine And.intro (And.intro (by first | rfl | assumption) ⟨_, (Look.of rfl), (by first | rfl | assumption | (simp [mapPV, mapE, mapC] <;> omega))⟩) ?_)), (by repeat' (first | exact RenG.base (fun b h => by first | exact absurd h (Nat.not_lt_zero _) | (have h0 : b = 0 := Nat.lt_one_iff.mp h; subst h0; rfl)) (Nat.le_of_ble_eq_true rfl) | refine RenG.cons ?_ rfl rfl (Look.of rfl) (by first | rfl | exact cI_map _ _ _ | assumption) (by first | rfl | exact cI_low _ _ _ | assumption) rfl))⟩
  intro ⟨k, hk⟩
  dsimp only
  by_cases hlt : k < l.length
  · have hx := dI_at .i32 l k hlt
    have F1 := F_isSample (l.getD k 0)
    rw [hs _ (by rw [List.getD_eq_getElem?_getD, List.getElem?_eq_getElem hlt]; exact List.getElem_mem _)] at F1
    repeat refine AW.seq ?_
    refine AW.reg (nx' := 1) (by kernel_rfl) ?_
    refine SK.p rfl rfl (by first | exact ok_bin rfl (Ev.tmp (Look.of rfl)) (Ev.tmp (Look.of rfl)) (r_lss (by first | assumption | exact decide_eq_true (by omega) | exact decide_eq_false (by omega) | rfl)) rfl) ?_
    refine SK.nil ⟨by kernel_rfl, ?_⟩
    repeat refine AW.seq ?_
    refine AW.cond_t (.tmp (Look.of rfl)) ?_
    repeat refine AW.seq ?_
    refine AW.skip ?_
    repeat refine AW.seq ?_
    refine AW.block ?_
    repeat refine AW.seq ?_
    refine AW.reg (nx' := 1) (by kernel_rfl) ?_
    refine SK.p rfl rfl (by first | exact ok_index_sl (e := 21) (s := 1) (bb := false) rfl (by kernel_rfl) (by kernel_rfl) (Ev.tmp (Look.of rfl)) (Ev.tmp (Look.of rfl)) (by omega) (by omega) (by first | assumption | (simp only [Int.toNat_natCast, Nat.mul_one, Int.toNat_zero, Nat.zero_mul, List.drop_zero, Nat.zero_add]; rfl) | rfl) | exact ok_index (e := 21) (s := 1) (bb := false) rfl (by kernel_rfl) (by kernel_rfl) (Ev.tmp (Look.of rfl)) (Ev.tmp (Look.of rfl)) (by omega) (by omega) (by first | assumption | (simp only [Int.toNat_natCast, Nat.mul_one, Int.toNat_zero, Nat.zero_mul, List.drop_zero, Nat.zero_add]; rfl) | rfl)) ?_
    refine SK.p rfl rfl (by first | exact ok_load rfl (by kernel_rfl) (Ev.tmp (Look.of rfl)) (Look.of rfl) (by first | rfl | assumption) | exact ok_load_rp rfl (by kernel_rfl) (Ev.tmp (Look.of rfl)) (by first | rfl | assumption)) ?_
    refine SK.p rfl rfl (ok_assign rfl (Ev.tmp (Look.of rfl))) ?_
    refine SK.nil ⟨by kernel_rfl, ?_⟩
    repeat refine AW.seq ?_
    refine AW.reg (nx' := 1) (by kernel_rfl) ?_
    refine SK.p rfl rfl (ok_move rfl (Ev.tmp (Look.of rfl))) ?_
    refine SK.w rfl rfl (ok_call0 (nx := 1) (snap := false) (foot := []) (hF := F1) (ho := rfl) (hent := ent37) (hargs := (EvA.cons (Ev.tmp (Look.of rfl)) EvA.nil)) (hpass := (by repeat' (first | exact trivial | refine ⟨?_, ?_⟩ | exact PassE.c (by first | exact PassC.same rfl rfl | exact PassC.nil | exact PassC.own rfl (Look.of rfl) rfl rfl (by first | exact cI_own _ _ | assumption | (simp only [List.drop_zero, cI_part, ← cI_dI, Nat.mul_one]; rfl) | rfl) (by first | rfl | assumption | (simp only [cI_len, dI_len, List.length_map, List.length_append, List.length_cons, List.length_nil]; omega))) | refine PassE.agg ?_ | exact (by first | exact PassC.same rfl rfl | exact PassC.nil | exact PassC.own rfl (Look.of rfl) rfl rfl (by first | exact cI_own _ _ | assumption | (simp only [List.drop_zero, cI_part, ← cI_dI, Nat.mul_one]; rfl) | rfl) (by first | rfl | assumption | (simp only [cI_len, dI_len, List.length_map, List.length_append, List.length_cons, List.length_nil]; omega)))))) (hout := rfl) (hsn := rfl) (hu := (by first | (simp only [nm, mapPV, mapE, mapC_d, mapC_own, mapC_ptr, mapBk_some, mapBk_none, cI_map, List.map_cons, List.map_nil, List.length_nil, List.length_cons, Nat.not_lt_zero, Nat.reduceLT, Nat.reduceAdd, Nat.reduceSub, Nat.zero_add, Nat.sub_zero, Nat.add_zero, if_false, if_true, ↓reduceIte, List.getD_cons_zero, List.getD_cons_succ, Nat.lt_irrefl, Nat.sub_self, Nat.zero_lt_one]; done) | (simp only [nm, mapPV, mapE, mapC_d, mapC_own, mapC_ptr, mapBk_some, mapBk_none, cI_map, List.map_cons, List.map_nil, List.length_nil, List.length_cons, Nat.not_lt_zero, Nat.reduceLT, Nat.reduceAdd, Nat.reduceSub, Nat.zero_add, Nat.sub_zero, Nat.add_zero, if_false, if_true, ↓reduceIte, List.getD_cons_zero, List.getD_cons_succ, Nat.lt_irrefl, Nat.sub_self, Nat.zero_lt_one]; rfl) | rfl)) (hw := (by first | (simp only [nm, mapPV, mapE, mapC_d, mapC_own, mapC_ptr, mapBk_some, mapBk_none, cI_map, List.map_cons, List.map_nil, List.length_nil, List.length_cons, Nat.not_lt_zero, Nat.reduceLT, Nat.reduceAdd, Nat.reduceSub, Nat.zero_add, Nat.sub_zero, Nat.add_zero, if_false, if_true, ↓reduceIte, List.getD_cons_zero, List.getD_cons_succ, Nat.lt_irrefl, Nat.sub_self, Nat.zero_lt_one]; done) | (simp only [nm, mapPV, mapE, mapC_d, mapC_own, mapC_ptr, mapBk_some, mapBk_none, cI_map, List.map_cons, List.map_nil, List.length_nil, List.length_cons, Nat.not_lt_zero, Nat.reduceLT, Nat.reduceAdd, Nat.reduceSub, Nat.zero_add, Nat.sub_zero, Nat.add_zero, if_false, if_true, ↓reduceIte, List.getD_cons_zero, List.getD_cons_succ, Nat.lt_irrefl, Nat.sub_self, Nat.zero_lt_one]; rfl) | rfl)) (hn := rfl)) (by simp only [List.cons_append, List.nil_append]; rfl) ?_
    refine SK.p rfl rfl (ok_not rfl (Ev.tmp (Look.of rfl)) rfl) ?_
    refine SK.nil ⟨by kernel_rfl, ?_⟩
    repeat refine AW.seq ?_
    refine AW.cond_f (.tmp (Look.of rfl)) ?_
    repeat refine AW.seq ?_
    refine AW.skip ?_
    repeat refine AW.seq ?_
    refine AW.reg (nx' := 1) (by kernel_rfl) ?_
    refine SK.p rfl rfl (by first | exact ok_bin rfl (Ev.tmp (Look.of rfl)) (Ev.lit rfl) (r_add (by first | assumption | exact IntWalk.i64_in _ (by omega) | rfl)) rfl) ?_
    refine SK.p rfl rfl (ok_move rfl (Ev.tmp (Look.of rfl))) ?_
    refine SK.nil ⟨by kernel_rfl, ?_⟩
    exact ⟨⟨k + 1, hlt⟩, ⟨fun b => b, (by repeat' (first | exact trivial | refine And.intro (And.intro (by first | rfl | assumption) ⟨_, (Look.of rfl), (by first | rfl | assumption | (simp [mapPV, mapE, mapC] <;> omega))⟩) ?_)), (by repeat' (first | exact RenG.base (fun b h => by first | exact absurd h (Nat.not_lt_zero _) | (have h0 : b = 0 := Nat.lt_one_iff.mp h; subst h0; rfl)) (Nat.le_of_ble_eq_true rfl) | refine RenG.cons ?_ rfl rfl (Look.of rfl) (by first | rfl | exact cI_map _ _ _ | assumption) (by first | rfl | exact cI_low _ _ _ | assumption) rfl))⟩, by first | omega | (simp <;> omega)⟩
  · obtain rfl : k = l.length := by omega
    repeat refine AW.seq ?_
    refine AW.reg (nx' := 1) (by kernel_rfl) ?_
    refine SK.p rfl rfl (by first | exact ok_bin rfl (Ev.tmp (Look.of rfl)) (Ev.tmp (Look.of rfl)) (r_lss (by first | assumption | exact decide_eq_true (by omega) | exact decide_eq_false (by omega) | rfl)) rfl) ?_
    refine SK.nil ⟨by kernel_rfl, ?_⟩
    repeat refine AW.seq ?_
    refine AW.cond_f (.tmp (Look.of rfl)) ?_
    repeat refine AW.seq ?_
    refine AW.exit ?_
    repeat refine AW.seq ?_
    refine AW.reg (nx' := 1) (by kernel_rfl) ?_
    refine SK.p rfl rfl (ok_assign rfl (Ev.lit rfl)) ?_
    refine SK.nil ⟨by kernel_rfl, ?_⟩
    exact AW.ret ⟨.inr rfl, _, fun b => b, (.cons (.tmp (Look.of rfl)) .nil), (by first | rfl | assumption | simp [mapPV, mapE, mapC, pvOf]), (by first | rfl | assumption), (RenG.base (fun b h => by first | exact absurd h (Nat.not_lt_zero _) | (have h0 : b = 0 := Nat.lt_one_iff.mp h; subst h0; rfl)) (Nat.le_of_ble_eq_true rfl))⟩
set_option maxHeartbeats 4000000 in
theorem F_rvalid (ch f : Nat) (l : List Int) (h : BV ch f l) : Fun 33 [blkA ch (slI l)] [] 0 (LV (.bool true)) [] 0 := by
  obtain ⟨h1, h8, hl, hf, hs⟩ := h
  have hbig : l.length ≤ 524288 := by rw [hl]; exact Nat.le_trans (Nat.mul_le_mul hf h8) (by omega)
  have hrem : ((l.length : Nat) : Int).tmod (ch : Int) = 0 := by rw [Int.tmod_eq_emod_of_nonneg (by omega), hl, Int.natCast_mul]; exact Int.mul_emod_left _ _
  have hquo : IntKind.i64.wrap (((l.length : Nat) : Int).tdiv (ch : Int)) = (f : Int) := by
    rw [Int.tdiv_eq_ediv_of_nonneg (by omega), hl, Int.natCast_mul, Int.mul_ediv_cancel _ (by omega)]; exact IntWalk.i64_in _ (by omega)
  clear hl
  refine Fun.mk (n := 42) Try.func33 rfl rfl (Nat.le_of_ble_eq_true rfl) ?_
  intro cx hcx
  simp only [argSlots, Nat.reduceAdd]
  repeat refine AW.seq ?_
  refine AW.reg (nx' := 1) (by kernel_rfl) ?_
  refine SK.w1 rfl rfl (by first | exact ok_box_agg (nx := 0) rfl (Ev.tmp (Look.of rfl)) | exact ok_box_c (nx := 0) rfl (Ev.tmp (Look.of rfl))) ?_
  refine SK.p rfl rfl (ok_assign rfl (Ev.lit rfl)) ?_
  refine SK.nil ⟨by kernel_rfl, ?_⟩
  repeat refine AW.seq ?_
  refine AW.reg (nx' := 1) (by kernel_rfl) ?_
  refine SK.p rfl rfl (by first | exact ok_fieldAddr (k := 0) (n := 0) (bb := false) rfl (by kernel_rfl) (Ev.tmp (Look.of rfl)) (by first | exact Nat.zero_add _ | rfl) | exact ok_fieldAddr_rp (k := 0) (n := 0) (bb := false) rfl (by kernel_rfl) (Ev.tmp (Look.of rfl)) (by first | assumption | rfl)) ?_
  refine SK.p rfl rfl (by first | exact ok_load rfl (by kernel_rfl) (Ev.tmp (Look.of rfl)) (Look.of rfl) (by first | rfl | assumption) | exact ok_load_rp rfl (by kernel_rfl) (Ev.tmp (Look.of rfl)) (by first | rfl | assumption)) ?_
  refine SK.p rfl rfl (by first | exact ok_bin rfl (Ev.tmp (Look.of rfl)) (Ev.lit rfl) (r_lss (by first | assumption | exact decide_eq_true (by omega) | exact decide_eq_false (by omega) | rfl)) rfl) ?_
  refine SK.p rfl rfl (ok_move rfl (Ev.tmp (Look.of rfl))) ?_
  first | refine SK.gp rfl rfl rfl (Look.of rfl) rfl (by first | exact ok_fieldAddr (k := 0) (n := 0) (bb := false) rfl (by kernel_rfl) (Ev.tmp (Look.of rfl)) (by first | exact Nat.zero_add _ | rfl) | exact ok_fieldAddr_rp (k := 0) (n := 0) (bb := false) rfl (by kernel_rfl) (Ev.tmp (Look.of rfl)) (by first | assumption | rfl)) ?_ | refine SK.gn rfl rfl rfl (Look.of rfl) rfl rfl ?_
  first | refine SK.gp rfl rfl rfl (Look.of rfl) rfl (by first | exact ok_load rfl (by kernel_rfl) (Ev.tmp (Look.of rfl)) (Look.of rfl) (by first | rfl | assumption) | exact ok_load_rp rfl (by kernel_rfl) (Ev.tmp (Look.of rfl)) (by first | rfl | assumption)) ?_ | refine SK.gn rfl rfl rfl (Look.of rfl) rfl rfl ?_
  first | refine SK.gp rfl rfl rfl (Look.of rfl) rfl (by first | exact ok_bin rfl (Ev.tmp (Look.of rfl)) (Ev.lit rfl) (r_gtr (by first | assumption | exact decide_eq_true (by omega) | exact decide_eq_false (by omega) | rfl)) rfl) ?_ | refine SK.gn rfl rfl rfl (Look.of rfl) rfl rfl ?_
  refine SK.p rfl rfl (by first | exact ok_pick_t rfl (Ev.tmp (Look.of rfl)) (Ev.lit rfl) | exact ok_pick_f rfl (Ev.tmp (Look.of rfl)) (Ev.tmp (Look.of rfl)) | exact ok_pick rfl (Ev.tmp (Look.of rfl)) (Ev.lit rfl) (Ev.tmp (Look.of rfl))) ?_
  refine SK.p rfl rfl (ok_move rfl (Ev.tmp (Look.of rfl))) ?_
  first | refine SK.gp rfl rfl rfl (Look.of rfl) rfl (by first | exact ok_fieldAddr (k := 1) (n := 0) (bb := false) rfl (by kernel_rfl) (Ev.tmp (Look.of rfl)) (by first | exact Nat.zero_add _ | rfl) | exact ok_fieldAddr_rp (k := 1) (n := 0) (bb := false) rfl (by kernel_rfl) (Ev.tmp (Look.of rfl)) (by first | assumption | rfl)) ?_ | refine SK.gn rfl rfl rfl (Look.of rfl) rfl rfl ?_
  first | refine SK.gp rfl rfl rfl (Look.of rfl) rfl (by first | exact ok_load rfl (by kernel_rfl) (Ev.tmp (Look.of rfl)) (Look.of rfl) (by first | rfl | assumption) | exact ok_load_rp rfl (by kernel_rfl) (Ev.tmp (Look.of rfl)) (by first | rfl | assumption)) ?_ | refine SK.gn rfl rfl rfl (Look.of rfl) rfl rfl ?_
  first | refine SK.gp rfl rfl rfl (Look.of rfl) rfl (by first | exact ok_len (ts := #[]) (ty := 0) rfl (by kernel_rfl) (Ev.tmp (Look.of rfl)) len_sl | exact ok_len (ts := #[]) (ty := 0) rfl (by kernel_rfl) (Ev.tmp (Look.of rfl)) len_own | exact ok_len (ts := #[]) (ty := 0) rfl (by kernel_rfl) (Ev.tmp (Look.of rfl)) len_nil) ?_ | refine SK.gn rfl rfl rfl (Look.of rfl) rfl rfl ?_
  first | refine SK.gp rfl rfl rfl (Look.of rfl) rfl (by first | exact ok_fieldAddr (k := 0) (n := 0) (bb := false) rfl (by kernel_rfl) (Ev.tmp (Look.of rfl)) (by first | exact Nat.zero_add _ | rfl) | exact ok_fieldAddr_rp (k := 0) (n := 0) (bb := false) rfl (by kernel_rfl) (Ev.tmp (Look.of rfl)) (by first | assumption | rfl)) ?_ | refine SK.gn rfl rfl rfl (Look.of rfl) rfl rfl ?_
  first | refine SK.gp rfl rfl rfl (Look.of rfl) rfl (by first | exact ok_load rfl (by kernel_rfl) (Ev.tmp (Look.of rfl)) (Look.of rfl) (by first | rfl | assumption) | exact ok_load_rp rfl (by kernel_rfl) (Ev.tmp (Look.of rfl)) (by first | rfl | assumption)) ?_ | refine SK.gn rfl rfl rfl (Look.of rfl) rfl rfl ?_
  first | refine SK.gp rfl rfl rfl (Look.of rfl) rfl (by first | exact ok_bin rfl (Ev.tmp (Look.of rfl)) (Ev.tmp (Look.of rfl)) (r_rem (by first | assumption | omega) (by first | assumption | rfl)) rfl) ?_ | refine SK.gn rfl rfl rfl (Look.of rfl) rfl rfl ?_
  first | refine SK.gp rfl rfl rfl (Look.of rfl) rfl (by first | exact ok_bin rfl (Ev.tmp (Look.of rfl)) (Ev.lit rfl) (r_neq (by first | assumption | exact decide_eq_true (by omega) | exact decide_eq_false (by omega) | rfl)) rfl | exact ok_bin rfl (Ev.tmp (Look.of rfl)) (Ev.lit rfl) (r_bneq (by kernel_rfl) rfl) rfl) ?_ | refine SK.gn rfl rfl rfl (Look.of rfl) rfl rfl ?_
  refine SK.p rfl rfl (by first | exact ok_pick_t rfl (Ev.tmp (Look.of rfl)) (Ev.lit rfl) | exact ok_pick_f rfl (Ev.tmp (Look.of rfl)) (Ev.tmp (Look.of rfl)) | exact ok_pick rfl (Ev.tmp (Look.of rfl)) (Ev.lit rfl) (Ev.tmp (Look.of rfl))) ?_
  refine SK.p rfl rfl (ok_move rfl (Ev.tmp (Look.of rfl))) ?_
  first | refine SK.gp rfl rfl rfl (Look.of rfl) rfl (by first | exact ok_fieldAddr (k := 1) (n := 0) (bb := false) rfl (by kernel_rfl) (Ev.tmp (Look.of rfl)) (by first | exact Nat.zero_add _ | rfl) | exact ok_fieldAddr_rp (k := 1) (n := 0) (bb := false) rfl (by kernel_rfl) (Ev.tmp (Look.of rfl)) (by first | assumption | rfl)) ?_ | refine SK.gn rfl rfl rfl (Look.of rfl) rfl rfl ?_
  first | refine SK.gp rfl rfl rfl (Look.of rfl) rfl (by first | exact ok_load rfl (by kernel_rfl) (Ev.tmp (Look.of rfl)) (Look.of rfl) (by first | rfl | assumption) | exact ok_load_rp rfl (by kernel_rfl) (Ev.tmp (Look.of rfl)) (by first | rfl | assumption)) ?_ | refine SK.gn rfl rfl rfl (Look.of rfl) rfl rfl ?_
  first | refine SK.gp rfl rfl rfl (Look.of rfl) rfl (by first | exact ok_len (ts := #[]) (ty := 0) rfl (by kernel_rfl) (Ev.tmp (Look.of rfl)) len_sl | exact ok_len (ts := #[]) (ty := 0) rfl (by kernel_rfl) (Ev.tmp (Look.of rfl)) len_own | exact ok_len (ts := #[]) (ty := 0) rfl (by kernel_rfl) (Ev.tmp (Look.of rfl)) len_nil) ?_ | refine SK.gn rfl rfl rfl (Look.of rfl) rfl rfl ?_
  first | refine SK.gp rfl rfl rfl (Look.of rfl) rfl (by first | exact ok_fieldAddr (k := 0) (n := 0) (bb := false) rfl (by kernel_rfl) (Ev.tmp (Look.of rfl)) (by first | exact Nat.zero_add _ | rfl) | exact ok_fieldAddr_rp (k := 0) (n := 0) (bb := false) rfl (by kernel_rfl) (Ev.tmp (Look.of rfl)) (by first | assumption | rfl)) ?_ | refine SK.gn rfl rfl rfl (Look.of rfl) rfl rfl ?_
  first | refine SK.gp rfl rfl rfl (Look.of rfl) rfl (by first | exact ok_load rfl (by kernel_rfl) (Ev.tmp (Look.of rfl)) (Look.of rfl) (by first | rfl | assumption) | exact ok_load_rp rfl (by kernel_rfl) (Ev.tmp (Look.of rfl)) (by first | rfl | assumption)) ?_ | refine SK.gn rfl rfl rfl (Look.of rfl) rfl rfl ?_
  first | refine SK.gp rfl rfl rfl (Look.of rfl) rfl (by first | exact ok_bin rfl (Ev.tmp (Look.of rfl)) (Ev.tmp (Look.of rfl)) (r_quo (by first | assumption | omega) (by first | assumption | exact IntWalk.i64_in _ (by omega) | rfl)) rfl) ?_ | refine SK.gn rfl rfl rfl (Look.of rfl) rfl rfl ?_
  first | refine SK.gp rfl rfl rfl (Look.of rfl) rfl (by first | exact ok_bin rfl (Ev.tmp (Look.of rfl)) (Ev.lit rfl) (r_gtr (by first | assumption | exact decide_eq_true (by omega) | exact decide_eq_false (by omega) | rfl)) rfl) ?_ | refine SK.gn rfl rfl rfl (Look.of rfl) rfl rfl ?_
  refine SK.p rfl rfl (by first | exact ok_pick_t rfl (Ev.tmp (Look.of rfl)) (Ev.lit rfl) | exact ok_pick_f rfl (Ev.tmp (Look.of rfl)) (Ev.tmp (Look.of rfl)) | exact ok_pick rfl (Ev.tmp (Look.of rfl)) (Ev.lit rfl) (Ev.tmp (Look.of rfl))) ?_
  refine SK.nil ⟨by kernel_rfl, ?_⟩
  repeat refine AW.seq ?_
  refine AW.cond_f (.tmp (Look.of rfl)) ?_
  repeat refine AW.seq ?_
  refine AW.skip ?_
  repeat refine AW.seq ?_
  refine AW.reg (nx' := 1) (by kernel_rfl) ?_
  refine SK.p rfl rfl (by first | exact ok_fieldAddr (k := 1) (n := 0) (bb := false) rfl (by kernel_rfl) (Ev.tmp (Look.of rfl)) (by first | exact Nat.zero_add _ | rfl) | exact ok_fieldAddr_rp (k := 1) (n := 0) (bb := false) rfl (by kernel_rfl) (Ev.tmp (Look.of rfl)) (by first | assumption | rfl)) ?_
  refine SK.p rfl rfl (by first | exact ok_load rfl (by kernel_rfl) (Ev.tmp (Look.of rfl)) (Look.of rfl) (by first | rfl | assumption) | exact ok_load_rp rfl (by kernel_rfl) (Ev.tmp (Look.of rfl)) (by first | rfl | assumption)) ?_
  refine SK.p rfl rfl (by first | exact ok_len (ts := #[]) (ty := 0) rfl (by kernel_rfl) (Ev.tmp (Look.of rfl)) len_sl | exact ok_len (ts := #[]) (ty := 0) rfl (by kernel_rfl) (Ev.tmp (Look.of rfl)) len_own | exact ok_len (ts := #[]) (ty := 0) rfl (by kernel_rfl) (Ev.tmp (Look.of rfl)) len_nil) ?_
  refine SK.p rfl rfl (ok_move rfl (Ev.lit rfl)) ?_
  refine SK.nil ⟨by kernel_rfl, ?_⟩
  repeat refine AW.seq ?_
  refine AW.block ?_
  refine AW.loop (α := {k : Nat // k ≤ l.length}) 0 hcx (fun k => ⟨[(1, .e (.c (.ptr 0 0))), (32, .e (.c (slI l))), (33, LV (.int .i64 (l.length : Nat))), (34, LV (.int .i64 (k.1 : Nat)))], [(0, some (26, [vI ch, slI l]))], 1⟩) (fun k => l.length - k.1) ⟨0, by omega⟩ ?_ ?_
  · skip
    exact ⟨fun b => b, (by repeat' (first | exact trivial | refine And.intro (And.intro (by first | rfl | assumption) ⟨_, (Look.of rfl), (by first | rfl | assumption | (simp [mapPV, mapE, mapC] <;> omega))⟩) ?_)), (by repeat' (first | exact RenG.base (fun b h => by first | exact absurd h (Nat.not_lt_zero _) | (have h0 : b = 0 := Nat.lt_one_iff.mp h; subst h0; rfl)) (Nat.le_of_ble_eq_true rfl) | refine RenG.cons ?_ rfl rfl (Look.of rfl) (by first | rfl | exact cI_map _ _ _ | assumption) (by first | rfl | exact cI_low _ _ _ | assumption) rfl))⟩
  intro ⟨k, hk⟩
  dsimp only
  by_cases hlt : k < l.length
  · have hx := dI_at .i32 l k hlt
    have F1 := F_rsample (l.getD k 0)
    rw [hs _ (by rw [List.getD_eq_getElem?_getD, List.getElem?_eq_getElem hlt]; exact List.getElem_mem _)] at F1
    repeat refine AW.seq ?_
    refine AW.reg (nx' := 1) (by kernel_rfl) ?_
    refine SK.p rfl rfl (by first | exact ok_bin rfl (Ev.tmp (Look.of rfl)) (Ev.tmp (Look.of rfl)) (r_lss (by first | assumption | exact decide_eq_true (by omega) | exact decide_eq_false (by omega) | rfl)) rfl) ?_
    refine SK.nil ⟨by kernel_rfl, ?_⟩
    repeat refine AW.seq ?_
    refine AW.cond_t (.tmp (Look.of rfl)) ?_
    repeat refine AW.seq ?_
    refine AW.skip ?_
    repeat refine AW.seq ?_
    refine AW.block ?_
    repeat refine AW.seq ?_
    refine AW.reg (nx' := 1) (by kernel_rfl) ?_
    refine SK.p rfl rfl (by first | exact ok_index_sl (e := 21) (s := 1) (bb := false) rfl (by kernel_rfl) (by kernel_rfl) (Ev.tmp (Look.of rfl)) (Ev.tmp (Look.of rfl)) (by omega) (by omega) (by first | assumption | (simp only [Int.toNat_natCast, Nat.mul_one, Int.toNat_zero, Nat.zero_mul, List.drop_zero, Nat.zero_add]; rfl) | rfl) | exact ok_index (e := 21) (s := 1) (bb := false) rfl (by kernel_rfl) (by kernel_rfl) (Ev.tmp (Look.of rfl)) (Ev.tmp (Look.of rfl)) (by omega) (by omega) (by first | assumption | (simp only [Int.toNat_natCast, Nat.mul_one, Int.toNat_zero, Nat.zero_mul, List.drop_zero, Nat.zero_add]; rfl) | rfl)) ?_
    refine SK.p rfl rfl (by first | exact ok_load rfl (by kernel_rfl) (Ev.tmp (Look.of rfl)) (Look.of rfl) (by first | rfl | assumption) | exact ok_load_rp rfl (by kernel_rfl) (Ev.tmp (Look.of rfl)) (by first | rfl | assumption)) ?_
    refine SK.p rfl rfl (ok_assign rfl (Ev.tmp (Look.of rfl))) ?_
    refine SK.nil ⟨by kernel_rfl, ?_⟩
    repeat refine AW.seq ?_
    refine AW.reg (nx' := 1) (by kernel_rfl) ?_
    refine SK.p rfl rfl (ok_move rfl (Ev.tmp (Look.of rfl))) ?_
    refine SK.w rfl rfl (ok_call0 (nx := 1) (snap := false) (foot := []) (hF := F1) (ho := rfl) (hent := ent38) (hargs := (EvA.cons (Ev.tmp (Look.of rfl)) EvA.nil)) (hpass := (by repeat' (first | exact trivial | refine ⟨?_, ?_⟩ | exact PassE.c (by first | exact PassC.same rfl rfl | exact PassC.nil | exact PassC.own rfl (Look.of rfl) rfl rfl (by first | exact cI_own _ _ | assumption | (simp only [List.drop_zero, cI_part, ← cI_dI, Nat.mul_one]; rfl) | rfl) (by first | rfl | assumption | (simp only [cI_len, dI_len, List.length_map, List.length_append, List.length_cons, List.length_nil]; omega))) | refine PassE.agg ?_ | exact (by first | exact PassC.same rfl rfl | exact PassC.nil | exact PassC.own rfl (Look.of rfl) rfl rfl (by first | exact cI_own _ _ | assumption | (simp only [List.drop_zero, cI_part, ← cI_dI, Nat.mul_one]; rfl) | rfl) (by first | rfl | assumption | (simp only [cI_len, dI_len, List.length_map, List.length_append, List.length_cons, List.length_nil]; omega)))))) (hout := rfl) (hsn := rfl) (hu := (by first | (simp only [nm, mapPV, mapE, mapC_d, mapC_own, mapC_ptr, mapBk_some, mapBk_none, cI_map, List.map_cons, List.map_nil, List.length_nil, List.length_cons, Nat.not_lt_zero, Nat.reduceLT, Nat.reduceAdd, Nat.reduceSub, Nat.zero_add, Nat.sub_zero, Nat.add_zero, if_false, if_true, ↓reduceIte, List.getD_cons_zero, List.getD_cons_succ, Nat.lt_irrefl, Nat.sub_self, Nat.zero_lt_one]; done) | (simp only [nm, mapPV, mapE, mapC_d, mapC_own, mapC_ptr, mapBk_some, mapBk_none, cI_map, List.map_cons, List.map_nil, List.length_nil, List.length_cons, Nat.not_lt_zero, Nat.reduceLT, Nat.reduceAdd, Nat.reduceSub, Nat.zero_add, Nat.sub_zero, Nat.add_zero, if_false, if_true, ↓reduceIte, List.getD_cons_zero, List.getD_cons_succ, Nat.lt_irrefl, Nat.sub_self, Nat.zero_lt_one]; rfl) | rfl)) (hw := (by first | (simp only [nm, mapPV, mapE, mapC_d, mapC_own, mapC_ptr, mapBk_some, mapBk_none, cI_map, List.map_cons, List.map_nil, List.length_nil, List.length_cons, Nat.not_lt_zero, Nat.reduceLT, Nat.reduceAdd, Nat.reduceSub, Nat.zero_add, Nat.sub_zero, Nat.add_zero, if_false, if_true, ↓reduceIte, List.getD_cons_zero, List.getD_cons_succ, Nat.lt_irrefl, Nat.sub_self, Nat.zero_lt_one]; done) | (simp only [nm, mapPV, mapE, mapC_d, mapC_own, mapC_ptr, mapBk_some, mapBk_none, cI_map, List.map_cons, List.map_nil, List.length_nil, List.length_cons, Nat.not_lt_zero, Nat.reduceLT, Nat.reduceAdd, Nat.reduceSub, Nat.zero_add, Nat.sub_zero, Nat.add_zero, if_false, if_true, ↓reduceIte, List.getD_cons_zero, List.getD_cons_succ, Nat.lt_irrefl, Nat.sub_self, Nat.zero_lt_one]; rfl) | rfl)) (hn := rfl)) (by simp only [List.cons_append, List.nil_append]; rfl) ?_
    refine SK.p rfl rfl (ok_not rfl (Ev.tmp (Look.of rfl)) rfl) ?_
    refine SK.nil ⟨by kernel_rfl, ?_⟩
    repeat refine AW.seq ?_
    refine AW.cond_f (.tmp (Look.of rfl)) ?_
    repeat refine AW.seq ?_
    refine AW.skip ?_
    repeat refine AW.seq ?_
    refine AW.reg (nx' := 1) (by kernel_rfl) ?_
    refine SK.p rfl rfl (by first | exact ok_bin rfl (Ev.tmp (Look.of rfl)) (Ev.lit rfl) (r_add (by first | assumption | exact IntWalk.i64_in _ (by omega) | rfl)) rfl) ?_
    refine SK.p rfl rfl (ok_move rfl (Ev.tmp (Look.of rfl))) ?_
    refine SK.nil ⟨by kernel_rfl, ?_⟩
    exact ⟨⟨k + 1, hlt⟩, ⟨fun b => b, (by repeat' (first | exact trivial | refine And.intro (And.intro (by first | rfl | assumption) ⟨_, (Look.of rfl), (by first | rfl | assumption | (simp [mapPV, mapE, mapC] <;> omega))⟩) ?_)), (by repeat' (first | exact RenG.base (fun b h => by first | exact absurd h (Nat.not_lt_zero _) | (have h0 : b = 0 := Nat.lt_one_iff.mp h; subst h0; rfl)) (Nat.le_of_ble_eq_true rfl) | refine RenG.cons ?_ rfl rfl (Look.of rfl) (by first | rfl | exact cI_map _ _ _ | assumption) (by first | rfl | exact cI_low _ _ _ | assumption) rfl))⟩, by first | omega | (simp <;> omega)⟩
  · obtain rfl : k = l.length := by omega
    repeat refine AW.seq ?_
    refine AW.reg (nx' := 1) (by kernel_rfl) ?_
    refine SK.p rfl rfl (by first | exact ok_bin rfl (Ev.tmp (Look.of rfl)) (Ev.tmp (Look.of rfl)) (r_lss (by first | assumption | exact decide_eq_true (by omega) | exact decide_eq_false (by omega) | rfl)) rfl) ?_
    refine SK.nil ⟨by kernel_rfl, ?_⟩
    repeat refine AW.seq ?_
    refine AW.cond_f (.tmp (Look.of rfl)) ?_
    repeat refine AW.seq ?_
    refine AW.exit ?_
    repeat refine AW.seq ?_
    refine AW.reg (nx' := 1) (by kernel_rfl) ?_
    refine SK.p rfl rfl (ok_assign rfl (Ev.lit rfl)) ?_
    refine SK.nil ⟨by kernel_rfl, ?_⟩
    exact AW.ret ⟨.inr rfl, _, fun b => b, (.cons (.tmp (Look.of rfl)) .nil), (by first | rfl | assumption | simp [mapPV, mapE, mapC, pvOf]), (by first | rfl | assumption), (RenG.base (fun b h => by first | exact absurd h (Nat.not_lt_zero _) | (have h0 : b = 0 := Nat.lt_one_iff.mp h; subst h0; rfl)) (Nat.le_of_ble_eq_true rfl))⟩
end Go.Proofs.Ytlelnhapcfjhfaa
