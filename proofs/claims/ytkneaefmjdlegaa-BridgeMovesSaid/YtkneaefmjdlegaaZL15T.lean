/- Taking and finishing refused. No statement is proved here. -/
import Derived.Test.YtkneaefmjdlegaaZL15F
import Derived.Test.YtkneaefmjdlegaaZLMade
namespace Go.Proofs.Ytkneaefmjdlegaa
open Go.ChangeShapes Go.WideShapes Go.ChangeAt Go.RowKit
set_option linter.unusedVariables false
set_option linter.unusedSimpArgs false
set_option maxHeartbeats 4000000 in
set_option maxRecDepth 100000 in
theorem P_Advance_no (n d a p f : Int) (i : Nat) (hv : PhV n d a p f) (hi : i ≤ 65536) (hb : 1125899906842624 < p + (mvV f (stp n a) i / (d * 65536))) : Fun 87 [.agg [iC n, iC d, iC a, iC p, iC f], iE ((i : Nat) : Int)] (toG []) 0 (.tup [.agg [iC 0, iC 0, iC 0, iC 0, iC 0], iE 2]) (toG []) 0 := by
  refine Fun.mk (n := 28) Try.func87 rfl rfl (Nat.le_of_ble_eq_true rfl) ?_
  intro cx hcx
  refine AW.rgs [.no, .no, .no] [1, 2, 4] [0, 1] (P := True) (l' := [(1, iV ↑i), (2, rV 0 0), (4, rV 1 0)]) (g' := [(0, some (27, .ds [iD n, iD d, iD a, iD p, iD f])), (1, some (27, .ds [iD 0, iD 0, iD 0, iD 0, iD 0]))]) (nx' := 2) (by kernel_rfl) trivial ?_
  have hx1 : (((0 : Int) ≤ ((mvV f (stp n a) i) / (d * 65536))) ∧ ((((mvV f (stp n a) i) / (d * 65536)) ≤ 3600000000000000) ∧ (((0 : Int) ≤ ((mvV f (stp n a) i) % (d * 65536))) ∧ (((mvV f (stp n a) i) % (d * 65536)) < (d * 65536))))) := (by have h9 := PhV.b (show PhV n d a p f by assumption); have h8 := stp_in h9.1 h9.2.2.1; have h7 := @mv_in f (stp n a) i (show 0 ≤ f ∧ f < 50331648000 by omega) (show 0 ≤ stp n a ∧ stp n a ≤ 53477376000 by omega) (by omega); have h6 := quo_in h7.1 (show 0 < d * 65536 by omega); omega)
  refine AW.rgs [.no, .no, .call [] (.tup [iE (p + ((mvV f (stp n a) i) / (d * 65536))), iE ((mvV f (stp n a) i) % (d * 65536)), iE 0]) [] 0 [] none, .no, .no, .no, .no, .no, .no, .no] [2, 4, 6, 7, 8] [0, 1] (P := (_)) (l' := [(2, rV 0 0), (4, rV 1 0), (6, iV (p + ((mvV f (stp n a) i) / (d * 65536)))), (7, iV ((mvV f (stp n a) i) % (d * 65536))), (8, iV 0)]) (g' := [(0, some (27, .ds [iD n, iD d, iD a, iD p, iD f])), (1, some (27, .ds [iD 0, iD 0, iD 0, iD 0, iD 0]))]) (nx' := 2) (by kernel_rfl) (P_At n d a p f i (by first | omega | with_reducible assumption | (simp <;> omega) | rfl | assumption) (by omega)) ?_
  refine AW.seq ?_
  refine AW.rgs [.no, .b false] [2, 4, 6, 7, 8, 17] [0, 1] (P := (¬ ((0 : Int) ≠ 0))) (l' := [(2, rV 0 0), (4, rV 1 0), (6, iV (p + ((mvV f (stp n a) i) / (d * 65536)))), (7, iV ((mvV f (stp n a) i) % (d * 65536))), (8, iV 0), (17, bV false)]) (g' := [(0, some (27, .ds [iD n, iD d, iD a, iD p, iD f])), (1, some (27, .ds [iD 0, iD 0, iD 0, iD 0, iD 0]))]) (nx' := 2) (by kernel_rfl) (by omega) ?_
  refine AW.cond_f (.tmp (Look.of rfl)) ?_
  refine AW.skip ?_
  refine AW.seq ?_
  refine AW.rgs [.no, .b true] [2, 4, 6, 7, 21] [0, 1] (P := (((1125899906842624 : Int) < (p + ((mvV f (stp n a) i) / (d * 65536)))))) (l' := [(2, rV 0 0), (4, rV 1 0), (6, iV (p + ((mvV f (stp n a) i) / (d * 65536)))), (7, iV ((mvV f (stp n a) i) % (d * 65536))), (21, bV true)]) (g' := [(0, some (27, .ds [iD n, iD d, iD a, iD p, iD f])), (1, some (27, .ds [iD 0, iD 0, iD 0, iD 0, iD 0]))]) (nx' := 2) (by kernel_rfl) (by omega) ?_
  refine AW.cond_t (.tmp (Look.of rfl)) ?_
  refine AW.rgs [.no, .no, .no] [4, 5] [1] (P := True) (l' := [(4, rV 1 0), (5, iV 2)]) (g' := [(1, some (27, .ds [iD 0, iD 0, iD 0, iD 0, iD 0]))]) (nx' := 2) (by kernel_rfl) trivial ?_
  refine AW.ret ?_
  exact EndP.of (.inr rfl) [] (P := ((0 : Int) = 0) ∧ ((0 : Int) = 0) ∧ ((0 : Int) = 0) ∧ ((0 : Int) = 0) ∧ ((0 : Int) = 0) ∧ ((2 : Int) = 2)) (by kernel_rfl) ⟨rfl, rfl, rfl, rfl, rfl, rfl⟩
set_option maxHeartbeats 4000000 in
set_option maxRecDepth 100000 in
theorem P_rAdvance_no (n d a p f : Int) (i : Nat) (hv : PhV n d a p f) (hi : i ≤ 65536) (hb : 1125899906842624 < p + (mvV f (stp n a) i / (d * 65536))) : Fun 93 [.agg [iC n, iC d, iC a, iC p, iC f], iE ((i : Nat) : Int)] (toG []) 0 (.tup [.agg [iC 0, iC 0, iC 0, iC 0, iC 0], iE 2]) (toG []) 0 := by
  refine Fun.mk (n := 28) Try.func93 rfl rfl (Nat.le_of_ble_eq_true rfl) ?_
  intro cx hcx
  refine AW.rgs [.no, .no, .no] [1, 2, 4] [0, 1] (P := True) (l' := [(1, iV ↑i), (2, rV 0 0), (4, rV 1 0)]) (g' := [(0, some (27, .ds [iD n, iD d, iD a, iD p, iD f])), (1, some (27, .ds [iD 0, iD 0, iD 0, iD 0, iD 0]))]) (nx' := 2) (by kernel_rfl) trivial ?_
  have hx1 : (((0 : Int) ≤ ((mvV f (stp n a) i) / (d * 65536))) ∧ ((((mvV f (stp n a) i) / (d * 65536)) ≤ 3600000000000000) ∧ (((0 : Int) ≤ ((mvV f (stp n a) i) % (d * 65536))) ∧ (((mvV f (stp n a) i) % (d * 65536)) < (d * 65536))))) := (by have h9 := PhV.b (show PhV n d a p f by assumption); have h8 := stp_in h9.1 h9.2.2.1; have h7 := @mv_in f (stp n a) i (show 0 ≤ f ∧ f < 50331648000 by omega) (show 0 ≤ stp n a ∧ stp n a ≤ 53477376000 by omega) (by omega); have h6 := quo_in h7.1 (show 0 < d * 65536 by omega); omega)
  refine AW.rgs [.no, .no, .call [] (.tup [iE (p + ((mvV f (stp n a) i) / (d * 65536))), iE ((mvV f (stp n a) i) % (d * 65536)), iE 0]) [] 0 [] none, .no, .no, .no, .no, .no, .no, .no] [2, 4, 6, 7, 8] [0, 1] (P := (_)) (l' := [(2, rV 0 0), (4, rV 1 0), (6, iV (p + ((mvV f (stp n a) i) / (d * 65536)))), (7, iV ((mvV f (stp n a) i) % (d * 65536))), (8, iV 0)]) (g' := [(0, some (27, .ds [iD n, iD d, iD a, iD p, iD f])), (1, some (27, .ds [iD 0, iD 0, iD 0, iD 0, iD 0]))]) (nx' := 2) (by kernel_rfl) (P_rAt n d a p f i (by first | omega | with_reducible assumption | (simp <;> omega) | rfl | assumption) (by omega)) ?_
  refine AW.seq ?_
  refine AW.rgs [.no, .b false] [2, 4, 6, 7, 8, 17] [0, 1] (P := (¬ ((0 : Int) ≠ 0))) (l' := [(2, rV 0 0), (4, rV 1 0), (6, iV (p + ((mvV f (stp n a) i) / (d * 65536)))), (7, iV ((mvV f (stp n a) i) % (d * 65536))), (8, iV 0), (17, bV false)]) (g' := [(0, some (27, .ds [iD n, iD d, iD a, iD p, iD f])), (1, some (27, .ds [iD 0, iD 0, iD 0, iD 0, iD 0]))]) (nx' := 2) (by kernel_rfl) (by omega) ?_
  refine AW.cond_f (.tmp (Look.of rfl)) ?_
  refine AW.skip ?_
  refine AW.seq ?_
  refine AW.rgs [.no, .b true] [2, 4, 6, 7, 21] [0, 1] (P := (((1125899906842624 : Int) < (p + ((mvV f (stp n a) i) / (d * 65536)))))) (l' := [(2, rV 0 0), (4, rV 1 0), (6, iV (p + ((mvV f (stp n a) i) / (d * 65536)))), (7, iV ((mvV f (stp n a) i) % (d * 65536))), (21, bV true)]) (g' := [(0, some (27, .ds [iD n, iD d, iD a, iD p, iD f])), (1, some (27, .ds [iD 0, iD 0, iD 0, iD 0, iD 0]))]) (nx' := 2) (by kernel_rfl) (by omega) ?_
  refine AW.cond_t (.tmp (Look.of rfl)) ?_
  refine AW.rgs [.no, .no, .no] [4, 5] [1] (P := True) (l' := [(4, rV 1 0), (5, iV 2)]) (g' := [(1, some (27, .ds [iD 0, iD 0, iD 0, iD 0, iD 0]))]) (nx' := 2) (by kernel_rfl) trivial ?_
  refine AW.ret ?_
  exact EndP.of (.inr rfl) [] (P := ((0 : Int) = 0) ∧ ((0 : Int) = 0) ∧ ((0 : Int) = 0) ∧ ((0 : Int) = 0) ∧ ((0 : Int) = 0) ∧ ((2 : Int) = 2)) (by kernel_rfl) ⟨rfl, rfl, rfl, rfl, rfl, rfl⟩
set_option maxHeartbeats 4000000 in
set_option maxRecDepth 100000 in
theorem Q_giveE (ch W : Nat) (n d a p f : Int) (l : List Int) (q k : Nat) (hq : List.length l = q) (hv : BV ch W l) (hp : PhV n d a p f) (hk : k ≤ 65536) (hb : 1125899906842624 < p + (mvV f (stp n a) k / (d * 65536))) : Fun 74 [.agg [iC ((ch : Nat) : Int), iC n, iC d, iC a, iC p, iC f, .d (D.sl (dI .i32 l) q)], iE ((k : Nat) : Int)] (toG []) 0 (.tup [.agg [iC 0, .d (D.lit (.slice none 0 0))], .agg [iC 0, iC 0, iC 0, iC 0, iC 0, iC 0, .d (D.lit (.slice none 0 0))], iE 2]) (toG []) 0 := by
  have hok : phB n d a p f = true := hp.ok
  have hob : okB ((ch : Nat) : Int) l = true := hv.ok
  have hbd : (1 ≤ n ∧ n ≤ 768000) ∧ (1 ≤ d ∧ d ≤ 768000) ∧ (-4096 ≤ a ∧ a ≤ 4096) ∧ (0 ≤ p ∧ p ≤ 1125899906842624) ∧ 0 ≤ f ∧ f < d * 65536 := hp.b
  have hst : 61440 ≤ stp n a ∧ stp n a ≤ 53477376000 := stp_in hp.b.1 hp.b.2.2.1
  have hc1 : 1 ≤ ch := hv.c1
  have hc8 : ch ≤ 8 := hv.c8
  have hlq : q = W * ch := hq.symm.trans hv.len
  have hbig : W * ch ≤ 524288 := hv.big
  have hfit : W ≤ 65536 := hv.fit
  have hqW : (q : Int) / (ch : Int) = W := by rw [hlq]; exact hv.quo
  have hvd : (phB n d a p f && okB ((ch : Nat) : Int) l) = true := by rw [hok, hob]; rfl
  refine Fun.mk (n := 57) Try.func74 rfl rfl (Nat.le_of_ble_eq_true rfl) ?_
  intro cx hcx
  refine AW.rgs [.no, .no, .no, .no] [1, 2, 4, 5] [0, 1, 2] (P := True) (l' := [(1, iV ↑k), (2, rV 0 0), (4, rV 1 0), (5, rV 2 0)]) (g' := [(0, some (30, .ds [iD ↑ch, iD n, iD d, iD a, iD p, iD f, D.sl (dI .i32 l) q])), (1, some (34, .ds [iD 0, D.lit (.slice none 0 0)])), (2, some (30, .ds [iD 0, iD 0, iD 0, iD 0, iD 0, iD 0, D.lit (.slice none 0 0)]))]) (nx' := 3) (by kernel_rfl) trivial ?_
  refine AW.rgs [.no, .no, .no, .call [] (.tup [.agg [iC 0, iC 0, iC 0, iC 0, iC 0], iE 2]) [] 0 [] none, .no, .no, .no, .no, .no, .no] [1, 2, 4, 5, 7, 8] [0, 1, 2, 3] (P := (_)) (l' := [(1, iV ↑k), (2, rV 0 0), (4, rV 1 0), (5, rV 2 0), (7, rV 3 0), (8, iV 2)]) (g' := [(0, some (30, .ds [iD ↑ch, iD n, iD d, iD a, iD p, iD f, D.sl (dI .i32 l) q])), (1, some (34, .ds [iD 0, D.lit (.slice none 0 0)])), (2, some (30, .ds [iD 0, iD 0, iD 0, iD 0, iD 0, iD 0, D.lit (.slice none 0 0)])), (3, some (27, .ds [iD 0, iD 0, iD 0, iD 0, iD 0]))]) (nx' := 4) (by kernel_rfl) (P_Advance_no n d a p f k (by first | omega | with_reducible assumption | (simp <;> omega) | rfl | assumption) (by omega) (by first | omega | with_reducible assumption | (simp <;> omega) | rfl | assumption)) ?_
  refine AW.seq ?_
  refine AW.rgs [.no, .b true] [1, 2, 4, 5, 7, 8, 19] [0, 1, 2, 3] (P := (((2 : Int) ≠ 0))) (l' := [(1, iV ↑k), (2, rV 0 0), (4, rV 1 0), (5, rV 2 0), (7, rV 3 0), (8, iV 2), (19, bV true)]) (g' := [(0, some (30, .ds [iD ↑ch, iD n, iD d, iD a, iD p, iD f, D.sl (dI .i32 l) q])), (1, some (34, .ds [iD 0, D.lit (.slice none 0 0)])), (2, some (30, .ds [iD 0, iD 0, iD 0, iD 0, iD 0, iD 0, D.lit (.slice none 0 0)])), (3, some (27, .ds [iD 0, iD 0, iD 0, iD 0, iD 0]))]) (nx' := 4) (by kernel_rfl) (by omega) ?_
  refine AW.cond_t (.tmp (Look.of rfl)) ?_
  refine AW.rgs [.no, .no, .no, .no, .no, .no] [4, 5, 6] [1, 2] (P := True) (l' := [(4, rV 1 0), (5, rV 2 0), (6, iV 2)]) (g' := [(1, some (34, .ds [iD 0, D.lit (.slice none 0 0)])), (2, some (30, .ds [iD 0, iD 0, iD 0, iD 0, iD 0, iD 0, D.lit (.slice none 0 0)]))]) (nx' := 4) (by kernel_rfl) trivial ?_
  refine AW.ret ?_
  exact EndP.of (.inr rfl) [] (P := ((0 : Int) = 0) ∧ ((.slice none 0 0 : Value) = .slice none 0 0) ∧ ((0 : Int) = 0) ∧ ((0 : Int) = 0) ∧ ((0 : Int) = 0) ∧ ((0 : Int) = 0) ∧ ((0 : Int) = 0) ∧ ((0 : Int) = 0) ∧ ((.slice none 0 0 : Value) = .slice none 0 0) ∧ ((2 : Int) = 2)) (by kernel_rfl) ⟨rfl, rfl, rfl, rfl, rfl, rfl, rfl, rfl, rfl, rfl⟩
set_option maxHeartbeats 4000000 in
set_option maxRecDepth 100000 in
theorem Q_rpassedE (ch W : Nat) (n d a p f : Int) (l : List Int) (q k : Nat) (hq : List.length l = q) (hv : BV ch W l) (hp : PhV n d a p f) (hk : k ≤ 65536) (hb : 1125899906842624 < p + (mvV f (stp n a) k / (d * 65536))) : Fun 78 [.agg [iC ((ch : Nat) : Int), iC n, iC d, iC a, iC p, iC f, .d (D.sl (dI .i32 l) q)], iE ((k : Nat) : Int)] (toG []) 0 (.tup [.agg [iC 0, iC 0, iC 0, iC 0, iC 0, iC 0, .d (D.lit (.slice none 0 0))], iE 2]) (toG []) 0 := by
  have hok : phB n d a p f = true := hp.ok
  have hob : okB ((ch : Nat) : Int) l = true := hv.ok
  have hbd : (1 ≤ n ∧ n ≤ 768000) ∧ (1 ≤ d ∧ d ≤ 768000) ∧ (-4096 ≤ a ∧ a ≤ 4096) ∧ (0 ≤ p ∧ p ≤ 1125899906842624) ∧ 0 ≤ f ∧ f < d * 65536 := hp.b
  have hst : 61440 ≤ stp n a ∧ stp n a ≤ 53477376000 := stp_in hp.b.1 hp.b.2.2.1
  have hc1 : 1 ≤ ch := hv.c1
  have hc8 : ch ≤ 8 := hv.c8
  have hlq : q = W * ch := hq.symm.trans hv.len
  have hbig : W * ch ≤ 524288 := hv.big
  have hfit : W ≤ 65536 := hv.fit
  have hqW : (q : Int) / (ch : Int) = W := by rw [hlq]; exact hv.quo
  have hvd : (phB n d a p f && okB ((ch : Nat) : Int) l) = true := by rw [hok, hob]; rfl
  refine Fun.mk (n := 41) Try.func78 rfl rfl (Nat.le_of_ble_eq_true rfl) ?_
  intro cx hcx
  refine AW.rgs [.no, .no, .no] [1, 2, 4] [0, 1] (P := True) (l' := [(1, iV ↑k), (2, rV 0 0), (4, rV 1 0)]) (g' := [(0, some (30, .ds [iD ↑ch, iD n, iD d, iD a, iD p, iD f, D.sl (dI .i32 l) q])), (1, some (30, .ds [iD 0, iD 0, iD 0, iD 0, iD 0, iD 0, D.lit (.slice none 0 0)]))]) (nx' := 2) (by kernel_rfl) trivial ?_
  refine AW.rgs [.no, .no, .no, .call [] (.tup [.agg [iC 0, iC 0, iC 0, iC 0, iC 0], iE 2]) [] 0 [] none, .no, .no, .no, .no, .no, .no] [2, 4, 6, 7] [0, 1, 2] (P := (_)) (l' := [(2, rV 0 0), (4, rV 1 0), (6, rV 2 0), (7, iV 2)]) (g' := [(0, some (30, .ds [iD ↑ch, iD n, iD d, iD a, iD p, iD f, D.sl (dI .i32 l) q])), (1, some (30, .ds [iD 0, iD 0, iD 0, iD 0, iD 0, iD 0, D.lit (.slice none 0 0)])), (2, some (27, .ds [iD 0, iD 0, iD 0, iD 0, iD 0]))]) (nx' := 3) (by kernel_rfl) (P_rAdvance_no n d a p f k (by first | omega | with_reducible assumption | (simp <;> omega) | rfl | assumption) (by omega) (by first | omega | with_reducible assumption | (simp <;> omega) | rfl | assumption)) ?_
  refine AW.seq ?_
  refine AW.rgs [.no, .b true] [2, 4, 6, 7, 17] [0, 1, 2] (P := (((2 : Int) ≠ 0))) (l' := [(2, rV 0 0), (4, rV 1 0), (6, rV 2 0), (7, iV 2), (17, bV true)]) (g' := [(0, some (30, .ds [iD ↑ch, iD n, iD d, iD a, iD p, iD f, D.sl (dI .i32 l) q])), (1, some (30, .ds [iD 0, iD 0, iD 0, iD 0, iD 0, iD 0, D.lit (.slice none 0 0)])), (2, some (27, .ds [iD 0, iD 0, iD 0, iD 0, iD 0]))]) (nx' := 3) (by kernel_rfl) (by omega) ?_
  refine AW.cond_t (.tmp (Look.of rfl)) ?_
  refine AW.rgs [.no, .no, .no, .no] [4, 5] [1] (P := True) (l' := [(4, rV 1 0), (5, iV 2)]) (g' := [(1, some (30, .ds [iD 0, iD 0, iD 0, iD 0, iD 0, iD 0, D.lit (.slice none 0 0)]))]) (nx' := 3) (by kernel_rfl) trivial ?_
  refine AW.ret ?_
  exact EndP.of (.inr rfl) [] (P := ((0 : Int) = 0) ∧ ((0 : Int) = 0) ∧ ((0 : Int) = 0) ∧ ((0 : Int) = 0) ∧ ((0 : Int) = 0) ∧ ((0 : Int) = 0) ∧ ((.slice none 0 0 : Value) = .slice none 0 0) ∧ ((2 : Int) = 2)) (by kernel_rfl) ⟨rfl, rfl, rfl, rfl, rfl, rfl, rfl, rfl⟩
set_option maxHeartbeats 4000000 in
set_option maxRecDepth 100000 in
theorem Q_TakeE4 (ch W : Nat) (n d a p f : Int) (l : List Int) (q k : Nat) (hq : List.length l = q) (hv : BV ch W l) (hp : PhV n d a p f) (hk : k ≤ 65536) (hnd : needV f (stp n a) (d * 65536) k ≤ (W : Int)) (hb : 1125899906842624 < p + (mvV f (stp n a) k / (d * 65536))) : Fun 45 [.agg [iC ((ch : Nat) : Int), iC n, iC d, iC a, iC p, iC f, .d (D.sl (dI .i32 l) q)], iE ((k : Nat) : Int)] (toG []) 0 (.tup [.agg [iC 0, .d (D.lit (.slice none 0 0))], .agg [iC 0, iC 0, iC 0, iC 0, iC 0, iC 0, .d (D.lit (.slice none 0 0))], iE 2]) (toG []) 0 := by
  have hok : phB n d a p f = true := hp.ok
  have hob : okB ((ch : Nat) : Int) l = true := hv.ok
  have hbd : (1 ≤ n ∧ n ≤ 768000) ∧ (1 ≤ d ∧ d ≤ 768000) ∧ (-4096 ≤ a ∧ a ≤ 4096) ∧ (0 ≤ p ∧ p ≤ 1125899906842624) ∧ 0 ≤ f ∧ f < d * 65536 := hp.b
  have hst : 61440 ≤ stp n a ∧ stp n a ≤ 53477376000 := stp_in hp.b.1 hp.b.2.2.1
  have hc1 : 1 ≤ ch := hv.c1
  have hc8 : ch ≤ 8 := hv.c8
  have hlq : q = W * ch := hq.symm.trans hv.len
  have hbig : W * ch ≤ 524288 := hv.big
  have hfit : W ≤ 65536 := hv.fit
  have hqW : (q : Int) / (ch : Int) = W := by rw [hlq]; exact hv.quo
  have hvd : (phB n d a p f && okB ((ch : Nat) : Int) l) = true := by rw [hok, hob]; rfl
  refine Fun.mk (n := 37) Try.func45 rfl rfl (Nat.le_of_ble_eq_true rfl) ?_
  intro cx hcx
  refine AW.rgs [.no, .no, .no, .no] [1, 2, 4, 5] [0, 1, 2] (P := True) (l' := [(1, iV ↑k), (2, rV 0 0), (4, rV 1 0), (5, rV 2 0)]) (g' := [(0, some (30, .ds [iD ↑ch, iD n, iD d, iD a, iD p, iD f, D.sl (dI .i32 l) q])), (1, some (34, .ds [iD 0, D.lit (.slice none 0 0)])), (2, some (30, .ds [iD 0, iD 0, iD 0, iD 0, iD 0, iD 0, D.lit (.slice none 0 0)]))]) (nx' := 3) (by kernel_rfl) trivial ?_
  refine AW.seq ?_
  refine AW.rgs [.no, .no, .call [] (iV 0) [] 0 [] none, .no] [1, 2, 4, 5, 7] [0, 1, 2] (P := (_)) (l' := [(1, iV ↑k), (2, rV 0 0), (4, rV 1 0), (5, rV 2 0), (7, iV 0)]) (g' := [(0, some (30, .ds [iD ↑ch, iD n, iD d, iD a, iD p, iD f, D.sl (dI .i32 l) q])), (1, some (34, .ds [iD 0, D.lit (.slice none 0 0)])), (2, some (30, .ds [iD 0, iD 0, iD 0, iD 0, iD 0, iD 0, D.lit (.slice none 0 0)]))]) (nx' := 3) (by kernel_rfl) (Q_check ch W n d a p f l q ((k : Nat) : Int) (by omega) (by first | omega | with_reducible assumption | (simp <;> omega) | rfl | assumption) (by first | omega | with_reducible assumption | (simp <;> omega) | rfl | assumption) (by omega)) ?_
  refine AW.rgs [.no, .b false] [1, 2, 4, 5, 7, 14] [0, 1, 2] (P := (¬ ((0 : Int) ≠ 0))) (l' := [(1, iV ↑k), (2, rV 0 0), (4, rV 1 0), (5, rV 2 0), (7, iV 0), (14, bV false)]) (g' := [(0, some (30, .ds [iD ↑ch, iD n, iD d, iD a, iD p, iD f, D.sl (dI .i32 l) q])), (1, some (34, .ds [iD 0, D.lit (.slice none 0 0)])), (2, some (30, .ds [iD 0, iD 0, iD 0, iD 0, iD 0, iD 0, D.lit (.slice none 0 0)]))]) (nx' := 3) (by kernel_rfl) (by omega) ?_
  refine AW.cond_f (.tmp (Look.of rfl)) ?_
  refine AW.skip ?_
  refine AW.seq ?_
  have hx1 : (((0 : Int) ≤ (needV f (stp n a) (d * 65536) k)) ∧ ((needV f (stp n a) (d * 65536) k) ≤ 3600000000000002)) := (by have h9 := PhV.b (show PhV n d a p f by assumption); have h8 := stp_in h9.1 h9.2.2.1; exact needV_in (by omega) (by omega) (by omega) (by omega))
  refine AW.rgs [.no, .no, .no, .call [] (.tup [iE (needV f (stp n a) (d * 65536) k), iE 0]) [] 0 [] none, .no, .no, .no, .no, .no] [1, 2, 4, 5, 8] [0, 1, 2] (P := (_)) (l' := [(1, iV ↑k), (2, rV 0 0), (4, rV 1 0), (5, rV 2 0), (8, iV (needV f (stp n a) (d * 65536) k))]) (g' := [(0, some (30, .ds [iD ↑ch, iD n, iD d, iD a, iD p, iD f, D.sl (dI .i32 l) q])), (1, some (34, .ds [iD 0, D.lit (.slice none 0 0)])), (2, some (30, .ds [iD 0, iD 0, iD 0, iD 0, iD 0, iD 0, D.lit (.slice none 0 0)]))]) (nx' := 3) (by kernel_rfl) (P_Need n d a p f k (by first | omega | with_reducible assumption | (simp <;> omega) | rfl | assumption) (by omega)) ?_
  refine AW.rgs [.no, .no, .call [] (iV ((W : Nat) : Int)) [] 0 [] none, .b false] [1, 2, 4, 5, 28] [0, 1, 2] (P := (_) ∧ (¬ (((W : Nat) : Int) < (needV f (stp n a) (d * 65536) k)))) (l' := [(1, iV ↑k), (2, rV 0 0), (4, rV 1 0), (5, rV 2 0), (28, bV false)]) (g' := [(0, some (30, .ds [iD ↑ch, iD n, iD d, iD a, iD p, iD f, D.sl (dI .i32 l) q])), (1, some (34, .ds [iD 0, D.lit (.slice none 0 0)])), (2, some (30, .ds [iD 0, iD 0, iD 0, iD 0, iD 0, iD 0, D.lit (.slice none 0 0)]))]) (nx' := 3) (by kernel_rfl) ⟨(Q_waiting ch W n d a p f l q (by omega) (by first | omega | with_reducible assumption | (simp <;> omega) | rfl | assumption)), (by omega)⟩ ?_
  refine AW.cond_f (.tmp (Look.of rfl)) ?_
  refine AW.skip ?_
  refine AW.rgs [.no, .no, .call [] (.tup [.agg [iC 0, .d (D.lit (.slice none 0 0))], .agg [iC 0, iC 0, iC 0, iC 0, iC 0, iC 0, .d (D.lit (.slice none 0 0))], iE 2]) [] 0 [] none, .no, .no, .no, .no, .no, .no] [4, 5, 6] [1, 2] (P := (_)) (l' := [(4, rV 1 0), (5, rV 2 0), (6, iV 2)]) (g' := [(1, some (34, .ds [iD 0, D.lit (.slice none 0 0)])), (2, some (30, .ds [iD 0, iD 0, iD 0, iD 0, iD 0, iD 0, D.lit (.slice none 0 0)]))]) (nx' := 3) (by kernel_rfl) (Q_giveE ch W n d a p f l q k (by omega) (by first | omega | with_reducible assumption | (simp <;> omega) | rfl | assumption) (by first | omega | with_reducible assumption | (simp <;> omega) | rfl | assumption) (by omega) (by first | omega | with_reducible assumption | (simp <;> omega) | rfl | assumption)) ?_
  refine AW.ret ?_
  exact EndP.of (.inr rfl) [] (P := ((0 : Int) = 0) ∧ ((.slice none 0 0 : Value) = .slice none 0 0) ∧ ((0 : Int) = 0) ∧ ((0 : Int) = 0) ∧ ((0 : Int) = 0) ∧ ((0 : Int) = 0) ∧ ((0 : Int) = 0) ∧ ((0 : Int) = 0) ∧ ((.slice none 0 0 : Value) = .slice none 0 0) ∧ ((2 : Int) = 2)) (by kernel_rfl) ⟨rfl, rfl, rfl, rfl, rfl, rfl, rfl, rfl, rfl, rfl⟩
set_option maxHeartbeats 4000000 in
set_option maxRecDepth 100000 in
theorem Q_rTakeE4 (ch W : Nat) (n d a p f : Int) (l : List Int) (q k : Nat) (hq : List.length l = q) (hv : BV ch W l) (hp : PhV n d a p f) (hk : k ≤ 65536) (hnd : needV f (stp n a) (d * 65536) k ≤ (W : Int)) (hb : 1125899906842624 < p + (mvV f (stp n a) k / (d * 65536))) : Fun 51 [.agg [iC ((ch : Nat) : Int), iC n, iC d, iC a, iC p, iC f, .d (D.sl (dI .i32 l) q)], iE ((k : Nat) : Int)] (toG []) 0 (.tup [.agg [iC 0, .d (D.lit (.slice none 0 0))], .agg [iC 0, iC 0, iC 0, iC 0, iC 0, iC 0, .d (D.lit (.slice none 0 0))], iE 2]) (toG []) 0 := by
  have hok : phB n d a p f = true := hp.ok
  have hob : okB ((ch : Nat) : Int) l = true := hv.ok
  have hbd : (1 ≤ n ∧ n ≤ 768000) ∧ (1 ≤ d ∧ d ≤ 768000) ∧ (-4096 ≤ a ∧ a ≤ 4096) ∧ (0 ≤ p ∧ p ≤ 1125899906842624) ∧ 0 ≤ f ∧ f < d * 65536 := hp.b
  have hst : 61440 ≤ stp n a ∧ stp n a ≤ 53477376000 := stp_in hp.b.1 hp.b.2.2.1
  have hc1 : 1 ≤ ch := hv.c1
  have hc8 : ch ≤ 8 := hv.c8
  have hlq : q = W * ch := hq.symm.trans hv.len
  have hbig : W * ch ≤ 524288 := hv.big
  have hfit : W ≤ 65536 := hv.fit
  have hqW : (q : Int) / (ch : Int) = W := by rw [hlq]; exact hv.quo
  have hvd : (phB n d a p f && okB ((ch : Nat) : Int) l) = true := by rw [hok, hob]; rfl
  refine Fun.mk (n := 48) Try.func51 rfl rfl (Nat.le_of_ble_eq_true rfl) ?_
  intro cx hcx
  refine AW.rgs [.no, .no, .no, .no] [1, 2, 4, 5] [0, 1, 2] (P := True) (l' := [(1, iV ↑k), (2, rV 0 0), (4, rV 1 0), (5, rV 2 0)]) (g' := [(0, some (30, .ds [iD ↑ch, iD n, iD d, iD a, iD p, iD f, D.sl (dI .i32 l) q])), (1, some (34, .ds [iD 0, D.lit (.slice none 0 0)])), (2, some (30, .ds [iD 0, iD 0, iD 0, iD 0, iD 0, iD 0, D.lit (.slice none 0 0)]))]) (nx' := 3) (by kernel_rfl) trivial ?_
  refine AW.seq ?_
  refine AW.rgs [.no, .call [] (bV true) [] 0 [] none, .no] [1, 2, 4, 5, 12] [0, 1, 2] (P := (Fun 56 [.agg [iC ((ch : Nat) : Int), iC n, iC d, iC a, iC p, iC f, .d (D.sl (dI .i32 l) q)]] (toG []) 0 (bV true) (toG []) 0)) (l' := [(1, iV ↑k), (2, rV 0 0), (4, rV 1 0), (5, rV 2 0), (12, bV false)]) (g' := [(0, some (30, .ds [iD ↑ch, iD n, iD d, iD a, iD p, iD f, D.sl (dI .i32 l) q])), (1, some (34, .ds [iD 0, D.lit (.slice none 0 0)])), (2, some (30, .ds [iD 0, iD 0, iD 0, iD 0, iD 0, iD 0, D.lit (.slice none 0 0)]))]) (nx' := 3) (by kernel_rfl) (by have h0 := (Q_rValid ((ch : Nat) : Int) n d a p f l q (by omega) (by omega)); rw [hvd] at h0; exact h0) ?_
  refine AW.cond_f (.tmp (Look.of rfl)) ?_
  refine AW.skip ?_
  have hx1 : (((0 : Int) ≤ (needV f (stp n a) (d * 65536) k)) ∧ ((needV f (stp n a) (d * 65536) k) ≤ 3600000000000002)) := (by have h9 := PhV.b (show PhV n d a p f by assumption); have h8 := stp_in h9.1 h9.2.2.1; exact needV_in (by omega) (by omega) (by omega) (by omega))
  refine AW.rgs [.no, .no, .no, .call [] (.tup [iE (needV f (stp n a) (d * 65536) k), iE 0]) [] 0 [] none, .no, .no, .no, .no, .no] [1, 2, 4, 5, 7, 8] [0, 1, 2] (P := (_)) (l' := [(1, iV ↑k), (2, rV 0 0), (4, rV 1 0), (5, rV 2 0), (7, iV (needV f (stp n a) (d * 65536) k)), (8, iV 0)]) (g' := [(0, some (30, .ds [iD ↑ch, iD n, iD d, iD a, iD p, iD f, D.sl (dI .i32 l) q])), (1, some (34, .ds [iD 0, D.lit (.slice none 0 0)])), (2, some (30, .ds [iD 0, iD 0, iD 0, iD 0, iD 0, iD 0, D.lit (.slice none 0 0)]))]) (nx' := 3) (by kernel_rfl) (P_rNeed n d a p f k (by first | omega | with_reducible assumption | (simp <;> omega) | rfl | assumption) (by omega)) ?_
  refine AW.seq ?_
  refine AW.rgs [.no, .b false] [1, 2, 4, 5, 7, 8, 23] [0, 1, 2] (P := (¬ ((0 : Int) ≠ 0))) (l' := [(1, iV ↑k), (2, rV 0 0), (4, rV 1 0), (5, rV 2 0), (7, iV (needV f (stp n a) (d * 65536) k)), (8, iV 0), (23, bV false)]) (g' := [(0, some (30, .ds [iD ↑ch, iD n, iD d, iD a, iD p, iD f, D.sl (dI .i32 l) q])), (1, some (34, .ds [iD 0, D.lit (.slice none 0 0)])), (2, some (30, .ds [iD 0, iD 0, iD 0, iD 0, iD 0, iD 0, D.lit (.slice none 0 0)]))]) (nx' := 3) (by kernel_rfl) (by omega) ?_
  refine AW.cond_f (.tmp (Look.of rfl)) ?_
  refine AW.skip ?_
  refine AW.seq ?_
  refine AW.rgs [.no, .no, .call [] (iV ((W : Nat) : Int)) [] 0 [] none, .b false] [1, 2, 4, 5, 30] [0, 1, 2] (P := (_) ∧ (¬ (((W : Nat) : Int) < (needV f (stp n a) (d * 65536) k)))) (l' := [(1, iV ↑k), (2, rV 0 0), (4, rV 1 0), (5, rV 2 0), (30, bV false)]) (g' := [(0, some (30, .ds [iD ↑ch, iD n, iD d, iD a, iD p, iD f, D.sl (dI .i32 l) q])), (1, some (34, .ds [iD 0, D.lit (.slice none 0 0)])), (2, some (30, .ds [iD 0, iD 0, iD 0, iD 0, iD 0, iD 0, D.lit (.slice none 0 0)]))]) (nx' := 3) (by kernel_rfl) ⟨(Q_rWaiting ch W n d a p f l q (by omega) (by first | omega | with_reducible assumption | (simp <;> omega) | rfl | assumption) (by first | omega | with_reducible assumption | (simp <;> omega) | rfl | assumption)), (by omega)⟩ ?_
  refine AW.cond_f (.tmp (Look.of rfl)) ?_
  refine AW.skip ?_
  refine AW.rgs [.no, .no, .call [] (.tup [.agg [iC 0, iC 0, iC 0, iC 0, iC 0, iC 0, .d (D.lit (.slice none 0 0))], iE 2]) [] 0 [] none, .no, .no, .no, .no, .no, .no] [1, 2, 4, 5, 8, 9] [0, 1, 2, 3] (P := (_)) (l' := [(1, iV ↑k), (2, rV 0 0), (4, rV 1 0), (5, rV 2 0), (8, iV 2), (9, rV 3 0)]) (g' := [(0, some (30, .ds [iD ↑ch, iD n, iD d, iD a, iD p, iD f, D.sl (dI .i32 l) q])), (1, some (34, .ds [iD 0, D.lit (.slice none 0 0)])), (2, some (30, .ds [iD 0, iD 0, iD 0, iD 0, iD 0, iD 0, D.lit (.slice none 0 0)])), (3, some (30, .ds [iD 0, iD 0, iD 0, iD 0, iD 0, iD 0, D.lit (.slice none 0 0)]))]) (nx' := 4) (by kernel_rfl) (Q_rpassedE ch W n d a p f l q k (by omega) (by first | omega | with_reducible assumption | (simp <;> omega) | rfl | assumption) (by first | omega | with_reducible assumption | (simp <;> omega) | rfl | assumption) (by omega) (by first | omega | with_reducible assumption | (simp <;> omega) | rfl | assumption)) ?_
  refine AW.seq ?_
  refine AW.rgs [.no, .b true] [1, 2, 4, 5, 8, 9, 40] [0, 1, 2, 3] (P := (((2 : Int) ≠ 0))) (l' := [(1, iV ↑k), (2, rV 0 0), (4, rV 1 0), (5, rV 2 0), (8, iV 2), (9, rV 3 0), (40, bV true)]) (g' := [(0, some (30, .ds [iD ↑ch, iD n, iD d, iD a, iD p, iD f, D.sl (dI .i32 l) q])), (1, some (34, .ds [iD 0, D.lit (.slice none 0 0)])), (2, some (30, .ds [iD 0, iD 0, iD 0, iD 0, iD 0, iD 0, D.lit (.slice none 0 0)])), (3, some (30, .ds [iD 0, iD 0, iD 0, iD 0, iD 0, iD 0, D.lit (.slice none 0 0)]))]) (nx' := 4) (by kernel_rfl) (by omega) ?_
  refine AW.cond_t (.tmp (Look.of rfl)) ?_
  refine AW.rgs [.no, .no, .no, .no, .no, .no] [4, 5, 6] [1, 2] (P := True) (l' := [(4, rV 1 0), (5, rV 2 0), (6, iV 2)]) (g' := [(1, some (34, .ds [iD 0, D.lit (.slice none 0 0)])), (2, some (30, .ds [iD 0, iD 0, iD 0, iD 0, iD 0, iD 0, D.lit (.slice none 0 0)]))]) (nx' := 4) (by kernel_rfl) trivial ?_
  refine AW.ret ?_
  exact EndP.of (.inr rfl) [] (P := ((0 : Int) = 0) ∧ ((.slice none 0 0 : Value) = .slice none 0 0) ∧ ((0 : Int) = 0) ∧ ((0 : Int) = 0) ∧ ((0 : Int) = 0) ∧ ((0 : Int) = 0) ∧ ((0 : Int) = 0) ∧ ((0 : Int) = 0) ∧ ((.slice none 0 0 : Value) = .slice none 0 0) ∧ ((2 : Int) = 2)) (by kernel_rfl) ⟨rfl, rfl, rfl, rfl, rfl, rfl, rfl, rfl, rfl, rfl⟩
end Go.Proofs.Ytkneaefmjdlegaa
