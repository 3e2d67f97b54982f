/- The clock laws stand on this. No statement is proved here. -/
import Derived.Test.YteggelophhpnfaaL13D
namespace Go.Proofs.Yteggelophhpnfaa
open Go.ChangeShapes Go.WideShapes Go.ChangeAt Go.RowKit
set_option linter.unusedVariables false
set_option linter.unusedSimpArgs false

theorem S_nw : Fun 11 [.agg [iC 1, iC 2]] (toG []) 0 (.tup [.agg [.d (D.sl [iD 0, iD 1, iD 2] 1)], iE 0]) (toG []) 0 := by
  exact N_New_ok_p 1 2 (by decide +kernel)

theorem S_ch : Fun 15 [.agg [.d (D.sl [iD 0, iD 1, iD 2] 1)], iE 3, .agg [iC 1, iC 1]] (toG []) 0 (.tup [.agg [.d (D.sl [iD 0, iD 1, iD 2, iD 3, iD 1, iD 1] 2)], iE 0]) (toG []) 0 := by
  exact N_Chp_5 ([0, 1, 2] : List Int) 1 3 1 1 rfl (by omega) (by decide +kernel) (by decide +kernel) (by decide +kernel) (by omega)

theorem S_po5 : Fun 19 [.agg [.d (D.sl [iD 0, iD 1, iD 2, iD 3, iD 1, iD 1] 2)], iE 5] (toG []) 0 (.tup [iE 3, iE 0]) (toG []) 0 := by
  have h := Q_Pop3 ([0, 1, 2, 3, 1, 1] : List Int) 2 5 rfl (by omega) (by decide +kernel) (by omega)
  rw [show posV ([0, 1, 2, 3, 1, 1] : List Int) 2 5 = 3 by decide +kernel] at h
  exact h

theorem S_po3 : Fun 19 [.agg [.d (D.sl [iD 0, iD 1, iD 2, iD 3, iD 1, iD 1] 2)], iE 3] (toG []) 0 (.tup [iE 1, iE 0]) (toG []) 0 := by
  have h := Q_Pop3 ([0, 1, 2, 3, 1, 1] : List Int) 2 3 rfl (by omega) (by decide +kernel) (by omega)
  rw [show posV ([0, 1, 2, 3, 1, 1] : List Int) 2 3 = 1 by decide +kernel] at h
  exact h

theorem S_tm : Fun 23 [.agg [.d (D.sl [iD 0, iD 1, iD 2, iD 3, iD 1, iD 1] 2)], iE 2] (toG []) 0 (.tup [iE 4, iE 0]) (toG []) 0 := by
  have h := F_TimeOf ([0, 1, 2, 3, 1, 1] : List Int) 2 2 rfl (by omega)
  rw [show tmV ([0, 1, 2, 3, 1, 1] : List Int) 2 2 = 4 by decide +kernel, show tmE ([0, 1, 2, 3, 1, 1] : List Int) 2 2 = 0 by decide +kernel] at h
  exact h

theorem S_va : Fun 17 [.agg [.d (D.sl [iD 0, iD 1, iD 2, iD 3, iD 1, iD 1] 2)]] (toG []) 0 (.e (.c (.d (D.lit (.bool (true)))))) (toG []) 0 := by
  have h := T_Valid ([0, 1, 2, 3, 1, 1] : List Int) 2 rfl (by omega)
  rw [show ckB ([0, 1, 2, 3, 1, 1] : List Int) 2 = true by decide +kernel] at h
  exact h

set_option maxHeartbeats 4000000 in
set_option maxRecDepth 100000 in
theorem L_sane   : Fun 9 [] (toG []) 0 (.e (.c (.d (D.lit (.bool (true)))))) (toG []) 0 := by
  refine Fun.mk (n := 70) Try.func9 rfl rfl (Nat.le_of_ble_eq_true rfl) ?_
  intro cx hcx
  refine AW.rgs [.no] [] [] (P := True) (l' := []) (g' := []) (nx' := 0) (by kernel_rfl) trivial ?_
  refine AW.rgs [.no, .call [] (.tup [.agg [.d (D.sl [iD 0, iD 1, iD 2] 1)], iE 0]) [] 0 [] none, .no, .no, .no, .no, .no, .no] [1, 2] [0] (P := (_)) (l' := [(1, rV 0 0), (2, iV 0)]) (g' := [(0, some (24, .ds [D.sl [iD 0, iD 1, iD 2] 1]))]) (nx' := 1) (by kernel_rfl) (S_nw) ?_
  refine AW.rgs [.no, .no, .call [] (.tup [.agg [.d (D.sl [iD 0, iD 1, iD 2, iD 3, iD 1, iD 1] 2)], iE 0]) [] 0 [] none, .no, .no, .no, .no, .no] [1, 2, 3] [0] (P := (_)) (l' := [(1, rV 0 0), (2, iV 0), (3, iV 0)]) (g' := [(0, some (24, .ds [D.sl [iD 0, iD 1, iD 2, iD 3, iD 1, iD 1] 2]))]) (nx' := 1) (by kernel_rfl) (S_ch) ?_
  refine AW.rgs [.no, .call [] (.tup [iE 3, iE 0]) [] 0 [] none, .no, .no, .no, .no, .no] [1, 2, 3, 4, 5] [0] (P := (_)) (l' := [(1, rV 0 0), (2, iV 0), (3, iV 0), (4, iV 3), (5, iV 0)]) (g' := [(0, some (24, .ds [D.sl [iD 0, iD 1, iD 2, iD 3, iD 1, iD 1] 2]))]) (nx' := 1) (by kernel_rfl) (S_po5) ?_
  refine AW.rgs [.no, .call [] (.tup [iE 1, iE 0]) [] 0 [] none, .no, .no, .no, .no, .no] [1, 2, 3, 4, 5, 6, 7] [0] (P := (_)) (l' := [(1, rV 0 0), (2, iV 0), (3, iV 0), (4, iV 3), (5, iV 0), (6, iV 1), (7, iV 0)]) (g' := [(0, some (24, .ds [D.sl [iD 0, iD 1, iD 2, iD 3, iD 1, iD 1] 2]))]) (nx' := 1) (by kernel_rfl) (S_po3) ?_
  refine AW.rgs [.no, .call [] (.tup [iE 4, iE 0]) [] 0 [] none, .no, .no, .no, .no, .no] [1, 2, 3, 4, 5, 6, 7, 8, 9] [0] (P := (_)) (l' := [(1, rV 0 0), (2, iV 0), (3, iV 0), (4, iV 3), (5, iV 0), (6, iV 1), (7, iV 0), (8, iV 4), (9, iV 0)]) (g' := [(0, some (24, .ds [D.sl [iD 0, iD 1, iD 2, iD 3, iD 1, iD 1] 2]))]) (nx' := 1) (by kernel_rfl) (S_tm) ?_
  rcases Bool.eq_false_or_eq_true (true) with hx1 | hx1
  · refine AW.rgs [.no, .b true, .no, .no, .b true, .no, .no, .no, .b true, .no, .no, .no, .b true, .no, .no, .no, .b true, .no, .no, .no, .b true, .no, .no, .no, .b true, .no, .no, .no, .b true, .no, .no, .no, .call [] (bV true) [] 0 [] none, .no, .no] [0] [] (P := (((0 : Int) = 0)) ∧ (((0 : Int) = 0)) ∧ (((0 : Int) = 0)) ∧ (((0 : Int) = 0)) ∧ (((0 : Int) = 0)) ∧ (((3 : Int) = 3)) ∧ (((1 : Int) = 1)) ∧ (((4 : Int) = 4)) ∧ (Fun 17 [.agg [.d (D.sl [iD 0, iD 1, iD 2, iD 3, iD 1, iD 1] 2)]] (toG []) 0 (bV true) (toG []) 0)) (l' := [(0, bV true)]) (g' := []) (nx' := 1) (by kernel_rfl) ⟨(by omega), (by omega), (by omega), (by omega), (by omega), (by omega), (by omega), (by omega), (by have h0 := (S_va); rw [hx1] at h0; exact h0)⟩ ?_
    refine AW.ret ?_
    exact EndP.of (.inr rfl) [] (P := ((true) = true)) (by kernel_rfl) (by first | rfl | assumption | exact decide_eq_true (by omega) | exact decide_eq_false (by omega) | (simp; omega))
  · refine AW.rgs [.no, .b true, .no, .no, .b true, .no, .no, .no, .b true, .no, .no, .no, .b true, .no, .no, .no, .b true, .no, .no, .no, .b true, .no, .no, .no, .b true, .no, .no, .no, .b true, .no, .no, .no, .call [] (bV false) [] 0 [] none, .no, .no] [0] [] (P := (((0 : Int) = 0)) ∧ (((0 : Int) = 0)) ∧ (((0 : Int) = 0)) ∧ (((0 : Int) = 0)) ∧ (((0 : Int) = 0)) ∧ (((3 : Int) = 3)) ∧ (((1 : Int) = 1)) ∧ (((4 : Int) = 4)) ∧ (Fun 17 [.agg [.d (D.sl [iD 0, iD 1, iD 2, iD 3, iD 1, iD 1] 2)]] (toG []) 0 (bV false) (toG []) 0)) (l' := [(0, bV false)]) (g' := []) (nx' := 1) (by kernel_rfl) ⟨(by omega), (by omega), (by omega), (by omega), (by omega), (by omega), (by omega), (by omega), (by have h0 := (S_va); rw [hx1] at h0; exact h0)⟩ ?_
    refine AW.ret ?_
    exact EndP.of (.inr rfl) [] (P := ((true) = false)) (by kernel_rfl) (by first | rfl | assumption | exact decide_eq_true (by omega) | exact decide_eq_false (by omega) | (simp; omega))

theorem X_New (l : List Int) (n : Nat) (hn : List.length l = n) (hb : n ≤ 9223372036854775807) (hy : Byt l) : ∃ (d : List Int), (Byt d) ∧ (List.length d ≤ 300) ∧ (Fun 25 [.c (.d (D.sl (dI .u8 l) n))] (toG []) 0 (rV 0 0) (toG [(0, some (72, .ds [D.sl (dI .u8 d) (List.length d)]))]) 1) := ⟨(List.take (min n 300) l), hy.take _, (by rw [List.length_take]; omega), G_New l n hn hb⟩

theorem X_Next (l : List Int) (n : Int) (hb : Byt l) : ∃ (q : Nat) (d : List Int), ((q : Int) < n ∨ q = 0) ∧ (q ≤ 255) ∧ (Byt d) ∧ (List.length d ≤ List.length l) ∧ (Fun 39 [.c (.ptr 0 0), iE n] (toG [(0, some (72, .ds [D.sl (dI .u8 l) (List.length l)]))]) 1 (iV ((q : Nat) : Int)) (toG [(0, some (72, .ds [D.sl (dI .u8 d) (List.length d)]))]) 1) := ⟨(nextN l n), (nextL l n), (nextV_in l n hb).1, (nextV_in l n hb).2, nextL_byt n hb, nextL_len l n, G_Next l n hb⟩

theorem X_Rate (l : List Int) (hb : Byt l) : ∃ (r : Int) (s : Int) (z : List Int), (rtB r s = true) ∧ (Byt z) ∧ (Fun 26 [.c (.ptr 0 0)] (toG [(0, some (72, .ds [D.sl (dI .u8 l) (List.length l)]))]) 1 (.e (.agg [iC r, iC s])) (toG [(0, some (72, .ds [D.sl (dI .u8 z) (List.length z)]))]) 1) := ⟨(rtN (nextN l 8)), (rtW (nextN l 8)), (nextL l 8), rt_all _, nextL_byt 8 hb, D_Rate l hb⟩

theorem X_Clock (l : List Int) (hb : Byt l) : ∃ (k : List Int) (m : Nat) (z : List Int), (ckB k m = true) ∧ (List.length k = m * 3) ∧ (m ≤ 64) ∧ (Byt z) ∧ (Fun 28 [.c (.ptr 0 0)] (toG [(0, some (72, .ds [D.sl (dI .u8 l) (List.length l)]))]) 1 (.e (.agg [.d (D.sl (dI .i64 k) m)])) (toG [(0, some (72, .ds [D.sl (dI .u8 z) (List.length z)]))]) 1) := ⟨(ckL l (nextN (nextL l 8) 5)), (ckN l (nextN (nextL l 8) 5)), (ckD l (nextN (nextL l 8) 5)), (ckS_ok hb _).1, (ckS_ok hb _).2.1, (ck_of (ckS_ok hb _).1).1.2, (ckS_ok hb _).2.2.2.2, D_Clock l hb⟩

set_option maxHeartbeats 4000000 in
set_option maxRecDepth 100000 in
theorem X_made13 (l : List Int) (n : Nat) (hn : List.length l = n) (hb : n ≤ 9223372036854775807) (hy : Byt l) : ∃ (k : List Int) (m : Nat), (ckB k m = true) ∧ (List.length k = m * 3) ∧ (m ≤ 64) ∧ (Fun 14 [.c (.d (D.sl (dI .u8 l) n))] (toG []) 0 (.e (.agg [.d (D.sl (dI .i64 k) m)])) (toG []) 0) := by
  obtain ⟨d1, hx1, hx2, hF1⟩ := (X_New l n (by omega) (by omega) (by first | omega | with_reducible assumption | (simp <;> omega) | rfl | assumption))
  obtain ⟨k2, m3, z4, hx3, hx4, hx5, hx6, hF4⟩ := (X_Clock d1 (by first | omega | with_reducible assumption | (simp <;> omega) | rfl | assumption))
  refine ⟨k2, m3, (by assumption), (by assumption), (by assumption), ?_⟩
  refine Fun.mk (n := 6) Try.func14 rfl rfl (Nat.le_of_ble_eq_true rfl) ?_
  intro cx hcx
  refine AW.rgs [.no] [0, 2] [0] (P := True) (l' := [(0, sV .u8 l n), (2, rV 0 0)]) (g' := [(0, some (24, .ds [D.lit (.slice none 0 0)]))]) (nx' := 1) (by kernel_rfl) trivial ?_
  refine AW.rgs [.no, .call [] (rV 0 0) [(0, some (72, .ds [D.sl (dI .u8 d1) (List.length d1)]))] 1 [] none, .call [1] (.e (.agg [.d (D.sl (dI .i64 k2) m3)])) [(0, some (72, .ds [D.sl (dI .u8 z4) (List.length z4)]))] 1 [] none, .no] [2] [0] (P := (_) ∧ (_)) (l' := [(2, rV 0 0)]) (g' := [(0, some (24, .ds [D.sl (dI .i64 k2) m3]))]) (nx' := 2) (by kernel_rfl) ⟨hF1, hF4⟩ ?_
  refine AW.ret ?_
  exact EndP.of (.inr rfl) [] (P := (((dI .i64 k2) : List D) = (dI .i64 k2)) ∧ ((m3 : Nat) = m3)) (by kernel_rfl) ⟨rfl, rfl⟩

end Go.Proofs.Yteggelophhpnfaa
