/- Rate conversion out of dice. No statement is proved here. -/
import Derived.Test.YtkneaefmjdlegaaZL15
import Derived.Test.YtkneaefmjdlegaaZLMade
namespace Go.Proofs.Ytkneaefmjdlegaa
open Go.ChangeShapes Go.WideShapes Go.ChangeAt Go.RowKit
set_option linter.unusedVariables false
set_option linter.unusedSimpArgs false
theorem X_New (l : List Int) (n : Nat) (hn : List.length l = n) (hb : n ≤ 9223372036854775807) (hy : Byt l) : ∃ (d : List Int), (Byt d) ∧ (List.length d ≤ 300) ∧ (Fun 10 [.c (.d (D.sl (dI .u8 l) n))] (toG []) 0 (rV 0 0) (toG [(0, some (70, .ds [D.sl (dI .u8 d) (List.length d)]))]) 1) := ⟨(List.take (min n 300) l), hy.take _, (by rw [List.length_take]; omega), G_New l n hn hb⟩
theorem X_Next (l : List Int) (n : Int) (hb : Byt l) : ∃ (q : Nat) (d : List Int), ((q : Int) < n ∨ q = 0) ∧ (q ≤ 255) ∧ (Byt d) ∧ (List.length d ≤ List.length l) ∧ (Fun 13 [.c (.ptr 0 0), iE n] (toG [(0, some (70, .ds [D.sl (dI .u8 l) (List.length l)]))]) 1 (iV ((q : Nat) : Int)) (toG [(0, some (70, .ds [D.sl (dI .u8 d) (List.length d)]))]) 1) := ⟨(nextN l n), (nextL l n), (nextV_in l n hb).1, (nextV_in l n hb).2, nextL_byt n hb, nextL_len l n, G_Next l n hb⟩
def bsN (x y : Nat) : Nat := x / Nat.gcd x y
theorem bs_in {x y : Nat} (hx : 1 ≤ x ∧ x ≤ 768000) (hy : 1 ≤ y ∧ y ≤ 768000) : (1 ≤ bsN x y ∧ bsN x y ≤ 768000) ∧ (1 ≤ y / Nat.gcd x y ∧ y / Nat.gcd x y ≤ 768000) ∧ 1 ≤ Nat.gcd x y := by
  have hg : 0 < Nat.gcd x y := Nat.gcd_pos_of_pos_left _ (by omega)
  have h1 : 0 < x / Nat.gcd x y := Nat.div_pos (Nat.le_of_dvd (by omega) (Nat.gcd_dvd_left x y)) hg
  have h2 : 0 < y / Nat.gcd x y := Nat.div_pos (Nat.le_of_dvd (by omega) (Nat.gcd_dvd_right x y)) hg
  have h3 := Nat.div_le_self x (Nat.gcd x y)
  have h4 := Nat.div_le_self y (Nat.gcd x y)
  unfold bsN
  omega
theorem bs_ok {x y : Nat} (hx : 1 ≤ x ∧ x ≤ 768000) (hy : 1 ≤ y ∧ y ≤ 768000) : phB ((bsN x y : Nat) : Int) ((y / Nat.gcd x y : Nat) : Int) 0 0 0 = true := by
  have h := bs_in hx hy
  refine phB_t (ratOk_t (by omega) (by omega) ?_) (by omega)
  rw [Int.toNat_natCast, Int.toNat_natCast]
  exact Nat.gcd_div_gcd_div_gcd_of_pos_left (by omega)
theorem PhV.z {n d : Int} (h : phB n d 0 0 0 = true) : PhV n d 0 0 0 := PhV.of h
theorem PhV.adj {n d a a' p f : Int} (h : PhV n d a p f) (ha : -4096 ≤ a' ∧ a' ≤ 4096) : PhV n d a' p f := ⟨h.rat, h.b.1, h.b.2.1, ha, h.b.2.2.2.1, h.b.2.2.2.2⟩
theorem BV.nil {ch : Nat} (h1 : 1 ≤ ch) (h8 : ch ≤ 8) : BV ch 0 [] := ⟨h1, h8, by simp, by decide, fun j hj => absurd hj (Nat.not_lt_zero j)⟩
theorem cv_pos {f s P : Int} (hf : 0 ≤ f ∧ f < P) (hs : 0 ≤ s) (k : Nat) : mvV f s k / P ≤ needV f s P k := by
  by_cases h : k = 0
  · subst h
    rw [mv_0, needV_0, Int.ediv_eq_zero_of_lt hf.1 hf.2]; omega
  · rw [needV_s _ _ _ h]; omega
set_option maxHeartbeats 4000000 in
set_option maxRecDepth 100000 in
theorem B_Make (x0 y0 : Nat) (hx : 1 ≤ x0 ∧ x0 ≤ 768000) (hy : 1 ≤ y0 ∧ y0 ≤ 768000) : Fun 61 [iE ((x0 : Nat) : Int), iE ((y0 : Nat) : Int)] (toG []) 0 (.tup [.agg [iC (((bsN x0 y0) : Nat) : Int), iC (((y0 / (Nat.gcd x0 y0)) : Nat) : Int)], iE 0]) (toG []) 0 := by
  have hbs := bs_in hx hy
  have hg1 : 1 ≤ Nat.gcd x0 y0 := hbs.2.2
  have hq1 : ((x0 : Nat) : Int) / ((Nat.gcd x0 y0 : Nat) : Int) = ((bsN x0 y0 : Nat) : Int) := rfl
  have hq2 : ((y0 : Nat) : Int) / ((Nat.gcd x0 y0 : Nat) : Int) = ((y0 / Nat.gcd x0 y0 : Nat) : Int) := rfl
  have hb1 : 1 ≤ bsN x0 y0 ∧ bsN x0 y0 ≤ 768000 := hbs.1
  have hb2 : 1 ≤ y0 / Nat.gcd x0 y0 ∧ y0 / Nat.gcd x0 y0 ≤ 768000 := hbs.2.1
  refine Fun.mk (n := 35) Try.func61 rfl rfl (Nat.le_of_ble_eq_true rfl) ?_
  intro cx hcx
  refine AW.rgs [.no, .no] [0, 1, 4] [0] (P := True) (l' := [(0, iV ↑x0), (1, iV ↑y0), (4, rV 0 0)]) (g' := [(0, some (25, .ds [iD 0, iD 0]))]) (nx' := 1) (by kernel_rfl) trivial ?_
  refine AW.seq ?_
  refine AW.rgs [.no, .b false, .no, .no, .b false, .no] [0, 1, 4, 13] [0] (P := (¬ (((x0 : Nat) : Int) < 1)) ∧ (¬ (((y0 : Nat) : Int) < 1))) (l' := [(0, iV ↑x0), (1, iV ↑y0), (4, rV 0 0), (13, bV false)]) (g' := [(0, some (25, .ds [iD 0, iD 0]))]) (nx' := 1) (by kernel_rfl) ⟨(by omega), (by omega)⟩ ?_
  refine AW.cond_f (.tmp (Look.of rfl)) ?_
  refine AW.skip ?_
  refine AW.rgs [.no, .no, .call [] (iV (((Nat.gcd x0 y0) : Nat) : Int)) [] 0 [] none, .no] [0, 1, 4, 6] [0] (P := (_)) (l' := [(0, iV ↑x0), (1, iV ↑y0), (4, rV 0 0), (6, iV (((Nat.gcd x0 y0) : Nat) : Int))]) (g' := [(0, some (25, .ds [iD 0, iD 0]))]) (nx' := 1) (by kernel_rfl) (R_gcd_r x0 y0 (by omega) (by omega)) ?_
  refine AW.rgs [.no, .no, .wi (((bsN x0 y0) : Nat) : Int), .no, .no, .wi (((y0 / (Nat.gcd x0 y0)) : Nat) : Int), .no, .no, .no] [4, 7] [0, 1] (P := (¬ ((((Nat.gcd x0 y0) : Nat) : Int) : Int) = 0) ∧ ((-9223372036854775808) ≤ (Int.tdiv ((x0 : Nat) : Int) (((Nat.gcd x0 y0) : Nat) : Int)) ∧ (Int.tdiv ((x0 : Nat) : Int) (((Nat.gcd x0 y0) : Nat) : Int)) ≤ 9223372036854775807) ∧ (((Int.tdiv ((x0 : Nat) : Int) (((Nat.gcd x0 y0) : Nat) : Int)) : Int) = (((bsN x0 y0) : Nat) : Int)) ∧ (¬ ((((Nat.gcd x0 y0) : Nat) : Int) : Int) = 0) ∧ ((-9223372036854775808) ≤ (Int.tdiv ((y0 : Nat) : Int) (((Nat.gcd x0 y0) : Nat) : Int)) ∧ (Int.tdiv ((y0 : Nat) : Int) (((Nat.gcd x0 y0) : Nat) : Int)) ≤ 9223372036854775807) ∧ (((Int.tdiv ((y0 : Nat) : Int) (((Nat.gcd x0 y0) : Nat) : Int)) : Int) = (((y0 / (Nat.gcd x0 y0)) : Nat) : Int))) (l' := [(4, rV 0 0), (7, rV 1 0)]) (g' := [(0, some (25, .ds [iD 0, iD 0])), (1, some (25, .ds [iD (((bsN x0 y0) : Nat) : Int), iD (((y0 / (Nat.gcd x0 y0)) : Nat) : Int)]))]) (nx' := 2) (by kernel_rfl) ⟨(by omega), ⟨by rw [Int.tdiv_eq_ediv_of_nonneg (by omega)]; omega, by rw [Int.tdiv_eq_ediv_of_nonneg (by omega)]; omega⟩, (by rw [Int.tdiv_eq_ediv_of_nonneg (by omega)]; omega), (by omega), ⟨by rw [Int.tdiv_eq_ediv_of_nonneg (by omega)]; omega, by rw [Int.tdiv_eq_ediv_of_nonneg (by omega)]; omega⟩, (by rw [Int.tdiv_eq_ediv_of_nonneg (by omega)]; omega)⟩ ?_
  refine AW.seq ?_
  refine AW.rgs [.no, .no, .b false, .no, .no, .no, .b false, .no] [4, 7, 32] [0, 1] (P := (¬ ((68719476736 : Int) < (((bsN x0 y0) : Nat) : Int))) ∧ (¬ ((68719476736 : Int) < (((y0 / (Nat.gcd x0 y0)) : Nat) : Int)))) (l' := [(4, rV 0 0), (7, rV 1 0), (32, bV false)]) (g' := [(0, some (25, .ds [iD 0, iD 0])), (1, some (25, .ds [iD (((bsN x0 y0) : Nat) : Int), iD (((y0 / (Nat.gcd x0 y0)) : Nat) : Int)]))]) (nx' := 2) (by kernel_rfl) ⟨(by omega), (by omega)⟩ ?_
  refine AW.cond_f (.tmp (Look.of rfl)) ?_
  refine AW.skip ?_
  refine AW.rgs [.no, .no, .no] [4, 5] [0] (P := True) (l' := [(4, rV 0 0), (5, iV 0)]) (g' := [(0, some (25, .ds [iD (((bsN x0 y0) : Nat) : Int), iD (((y0 / (Nat.gcd x0 y0)) : Nat) : Int)]))]) (nx' := 2) (by kernel_rfl) trivial ?_
  refine AW.ret ?_
  exact EndP.of (.inr rfl) [] (P := (((((bsN x0 y0) : Nat) : Int) : Int) = (((bsN x0 y0) : Nat) : Int)) ∧ (((((y0 / (Nat.gcd x0 y0)) : Nat) : Int) : Int) = (((y0 / (Nat.gcd x0 y0)) : Nat) : Int)) ∧ ((0 : Int) = 0)) (by kernel_rfl) ⟨rfl, rfl, rfl⟩
theorem X_Make (x0 y0 : Nat) (hx : 1 ≤ x0 ∧ x0 ≤ 768000) (hy : 1 ≤ y0 ∧ y0 ≤ 768000) : ∃ (bn : Int) (bd : Int), (phB bn bd 0 0 0 = true) ∧ (1 ≤ bn ∧ bn ≤ 768000 ∧ 1 ≤ bd ∧ bd ≤ 768000) ∧ (Fun 61 [iE ((x0 : Nat) : Int), iE ((y0 : Nat) : Int)] (toG []) 0 (.tup [.agg [iC bn, iC bd], iE 0]) (toG []) 0) := ⟨(((bsN x0 y0) : Nat) : Int), (((y0 / (Nat.gcd x0 y0)) : Nat) : Int), bs_ok hx hy, (by have := bs_in hx hy; omega), B_Make x0 y0 hx hy⟩
set_option maxHeartbeats 4000000 in
set_option maxRecDepth 100000 in
theorem X_Base (l : List Int) (hb : Byt l) : ∃ (bn : Int) (bd : Int) (z : List Int), (phB bn bd 0 0 0 = true) ∧ (1 ≤ bn ∧ bn ≤ 768000 ∧ 1 ≤ bd ∧ bd ≤ 768000) ∧ (Byt z) ∧ (Fun 32 [.c (.ptr 0 0)] (toG [(0, some (70, .ds [D.sl (dI .u8 l) (List.length l)]))]) 1 (.e (.agg [iC bn, iC bd])) (toG [(0, some (70, .ds [D.sl (dI .u8 z) (List.length z)]))]) 1) := by
  obtain ⟨q1, d2, hx1, hx2, hx3, hx4, hF2⟩ := (X_Next l 10 (by first | omega | with_reducible assumption | (simp <;> omega) | rfl | assumption))
  have hx5 : 1000 ≤ (List.getD ([48000, 48000, 44100, 96000, 8000, 32000, 192000, 1000, 768000, 47999] : List Int) q1 0) ∧ (List.getD ([48000, 48000, 44100, 96000, 8000, 32000, 192000, 1000, 768000, 47999] : List Int) q1 0) ≤ 768000 := lit_rng (l := ([48000, 48000, 44100, 96000, 8000, 32000, 192000, 1000, 768000, 47999] : List Int)) (a := 1000) (b := 768000) (by decide) _ (show _ < 10 by omega)
  obtain ⟨q3, d4, hx6, hx7, hx8, hx9, hF4⟩ := (X_Next d2 10 (by first | omega | with_reducible assumption | (simp <;> omega) | rfl | assumption))
  have hx10 : 1000 ≤ (List.getD ([48000, 48000, 44100, 96000, 8000, 32000, 192000, 1000, 768000, 47999] : List Int) q3 0) ∧ (List.getD ([48000, 48000, 44100, 96000, 8000, 32000, 192000, 1000, 768000, 47999] : List Int) q3 0) ≤ 768000 := lit_rng (l := ([48000, 48000, 44100, 96000, 8000, 32000, 192000, 1000, 768000, 47999] : List Int)) (a := 1000) (b := 768000) (by decide) _ (show _ < 10 by omega)
  obtain ⟨bn5, bd6, hx11, hx12, hF6⟩ := (X_Make (Int.toNat (List.getD ([48000, 48000, 44100, 96000, 8000, 32000, 192000, 1000, 768000, 47999] : List Int) q1 0)) (Int.toNat (List.getD ([48000, 48000, 44100, 96000, 8000, 32000, 192000, 1000, 768000, 47999] : List Int) q3 0)) (by first | omega | with_reducible assumption | (simp <;> omega) | rfl | assumption) (by first | omega | with_reducible assumption | (simp <;> omega) | rfl | assumption))
  refine ⟨bn5, bd6, d4, (by assumption), (by assumption), (by assumption), ?_⟩
  refine Fun.mk (n := 22) Try.func32 rfl rfl (Nat.le_of_ble_eq_true rfl) ?_
  intro cx hcx
  refine AW.rgs [.no] [0, 2] [0, 1] (P := True) (l' := [(0, rV 0 0), (2, rV 1 0)]) (g' := [(0, some (70, .ds [D.sl (dI .u8 l) (List.length l)])), (1, some (25, .ds [iD 0, iD 0]))]) (nx' := 2) (by kernel_rfl) trivial ?_
  refine AW.rgs [.no, .no] [0, 2, 3] [0, 1, 2] (P := True) (l' := [(0, rV 0 0), (2, rV 1 0), (3, oV 2 0 10 1)]) (g' := [(0, some (70, .ds [D.sl (dI .u8 l) (List.length l)])), (1, some (25, .ds [iD 0, iD 0])), (2, some (2, .ds [iD 48000, iD 48000, iD 44100, iD 96000, iD 8000, iD 32000, iD 192000, iD 1000, iD 768000, iD 47999]))]) (nx' := 3) (by kernel_rfl) trivial ?_
  refine AW.rgs [.no, .no, .call [0] (iV ((q1 : Nat) : Int)) [(0, some (70, .ds [D.sl (dI .u8 d2) (List.length d2)]))] 1 [] none, .n2 q1 q1, .d (D.lit (.int .i64 (List.getD ([48000, 48000, 44100, 96000, 8000, 32000, 192000, 1000, 768000, 47999] : List Int) q1 0))), .no, .no, .call [0] (iV ((q3 : Nat) : Int)) [(0, some (70, .ds [D.sl (dI .u8 d4) (List.length d4)]))] 1 [] none, .n2 q3 q3, .d (D.lit (.int .i64 (List.getD ([48000, 48000, 44100, 96000, 8000, 32000, 192000, 1000, 768000, 47999] : List Int) q3 0))), .call [] (.tup [.agg [iC bn5, iC bd6], iE 0]) [] 0 [] (some [iE (((Int.toNat (List.getD ([48000, 48000, 44100, 96000, 8000, 32000, 192000, 1000, 768000, 47999] : List Int) q1 0)) : Nat) : Int), iE (((Int.toNat (List.getD ([48000, 48000, 44100, 96000, 8000, 32000, 192000, 1000, 768000, 47999] : List Int) q3 0)) : Nat) : Int)]), .no, .no, .no, .no, .no, .no] [2, 4] [0, 1, 3] (P := (_) ∧ ((((q1 : Nat) : Int) : Int) = ((q1 : Nat) : Int)) ∧ (q1 < 10) ∧ ((0 : Nat) + q1 * 1 = q1) ∧ ([iD 48000, iD 48000, iD 44100, iD 96000, iD 8000, iD 32000, iD 192000, iD 1000, iD 768000, iD 47999][q1]? = some (D.lit (.int .i64 (List.getD ([48000, 48000, 44100, 96000, 8000, 32000, 192000, 1000, 768000, 47999] : List Int) q1 0)))) ∧ (_) ∧ ((((q3 : Nat) : Int) : Int) = ((q3 : Nat) : Int)) ∧ (q3 < 10) ∧ ((0 : Nat) + q3 * 1 = q3) ∧ ([iD 48000, iD 48000, iD 44100, iD 96000, iD 8000, iD 32000, iD 192000, iD 1000, iD 768000, iD 47999][q3]? = some (D.lit (.int .i64 (List.getD ([48000, 48000, 44100, 96000, 8000, 32000, 192000, 1000, 768000, 47999] : List Int) q3 0)))) ∧ (((((Int.toNat (List.getD ([48000, 48000, 44100, 96000, 8000, 32000, 192000, 1000, 768000, 47999] : List Int) q1 0)) : Nat) : Int) : Int) = (List.getD ([48000, 48000, 44100, 96000, 8000, 32000, 192000, 1000, 768000, 47999] : List Int) q1 0)) ∧ (((((Int.toNat (List.getD ([48000, 48000, 44100, 96000, 8000, 32000, 192000, 1000, 768000, 47999] : List Int) q3 0)) : Nat) : Int) : Int) = (List.getD ([48000, 48000, 44100, 96000, 8000, 32000, 192000, 1000, 768000, 47999] : List Int) q3 0)) ∧ (_)) (l' := [(2, rV 1 0), (4, rV 3 0)]) (g' := [(0, some (70, .ds [D.sl (dI .u8 d4) (List.length d4)])), (1, some (25, .ds [iD 0, iD 0])), (3, some (25, .ds [iD bn5, iD bd6]))]) (nx' := 4) (by kernel_rfl) ⟨hF2, rfl, (by omega), (by omega), (dI_get .i64 ([48000, 48000, 44100, 96000, 8000, 32000, 192000, 1000, 768000, 47999] : List Int) _ (by first | omega | (simp only [prV_len, rwV_len, dI_len, List.length_append, List.length_cons, List.length_nil, List.length_take, List.length_drop, List.length_replicate, List.length_set, List.length_map, List.length_reverse, Nat.mul_one] <;> omega) | rfl)), hF4, rfl, (by omega), (by omega), (dI_get .i64 ([48000, 48000, 44100, 96000, 8000, 32000, 192000, 1000, 768000, 47999] : List Int) _ (by first | omega | (simp only [prV_len, rwV_len, dI_len, List.length_append, List.length_cons, List.length_nil, List.length_take, List.length_drop, List.length_replicate, List.length_set, List.length_map, List.length_reverse, Nat.mul_one] <;> omega) | rfl)), (by omega), (by omega), hF6⟩ ?_
  refine AW.rgs [.no, .no] [2] [0, 1] (P := True) (l' := [(2, rV 1 0)]) (g' := [(0, some (70, .ds [D.sl (dI .u8 d4) (List.length d4)])), (1, some (25, .ds [iD bn5, iD bd6]))]) (nx' := 4) (by kernel_rfl) trivial ?_
  refine AW.ret ?_
  exact EndP.of (.inr rfl) [] (P := ((bn5 : Int) = bn5) ∧ ((bd6 : Int) = bd6) ∧ (([D.sl (dI .u8 d4) (List.length d4)] : List D) = [D.sl (dI .u8 d4) (List.length d4)])) (by kernel_rfl) ⟨rfl, rfl, rfl⟩
end Go.Proofs.Ytkneaefmjdlegaa
