/- Bridges out of dice. No statement is proved here. -/
import Derived.Test.YtkneaefmjdlegaaZL19J
namespace Go.Proofs.Ytkneaefmjdlegaa
open Go.ChangeShapes Go.WideShapes Go.ChangeAt Go.RowKit
set_option linter.unusedVariables false
set_option linter.unusedSimpArgs false
theorem pls_sane {l o l2 : List Int} {k W2 : Nat} {A p2 f2 : Int} (h : PLS 0 0 1 0 1 0 1 1 0 0 l 3 o k A l2 W2 p2 f2) : k = 0 ∧ W2 = 0 ∧ p2 = 0 := by
  have ha : A = 0 := h.aE
  have hk : k = 0 := by
    have h1 := h.kE
    have h2 := mkF_need (f := 0) (s := stp 1 A) (P := 1 * 65536) (h := ((0 : Nat) : Int)) (by decide)
    apply Nat.eq_zero_of_not_pos
    intro h3
    have h4 : ¬ mkF 0 (stp 1 A) (1 * 65536) ((0 : Nat) : Int) = 0 := by omega
    rw [needV_s _ _ _ h4] at h2
    subst ha
    have h5 : 0 ≤ mvV 0 (stp 1 0) (mkF 0 (stp 1 0) (1 * 65536) ((0 : Nat) : Int) - 1) := (mv_in (by decide) (by decide) (by omega)).1
    have h6 := (quo_in h5 (show (0 : Int) < 1 * 65536 by decide)).1
    omega
  refine ⟨hk, ?_, ?_⟩
  · rw [h.wE]; exact Nat.zero_sub _
  · rw [h.pE, hk, mv_0]; rfl
set_option maxHeartbeats 4000000 in
set_option maxRecDepth 100000 in
theorem K_sane   : Fun 7 [] (toG []) 0 (bV true) (toG []) 0 := by
  have hz10 : BV 1 10 ([0, 0, 0, 0, 0, 0, 0, 0, 0, 0] : List Int) := ⟨by decide, by decide, rfl, by decide, fun j hj => smp_of (lit_rng (l := [0, 0, 0, 0, 0, 0, 0, 0, 0, 0]) (a := -8388608) (b := 8388607) (by decide) j hj)⟩
  have hz11 : BV 1 10 (List.replicate 10 (0 : Int)) := BV.zero (ch := 1) (f := 10) (by decide) (by decide) (by decide)
  refine Fun.mk (n := 74) Try.func7 rfl rfl (Nat.le_of_ble_eq_true rfl) ?_
  intro cx hcx
  refine AW.rgs [.no] [] [] (P := True) (l' := []) (g' := []) (nx' := 0) (by kernel_rfl) trivial ?_
  obtain ⟨l21, r22, hx1, hx2, hx3, hx4, hF2_0, hF2_1⟩ := (X_BNew 8 0 0 1 0 1 1 1 0 (by omega) (by omega) (by omega) (by omega) (by decide) (by decide))
  refine AW.rgs [.no, .no, .call [] (.tup [.agg [iC 8, iC 0, iC 0, iC 1, iC 0, iC 1, iC 1, iC 1, iC 0, iC 0, iC 0, .d (D.sl (dI .i32 l21) r22), iC 0, iC 0], iE 0]) [] 1 [] none, .no, .no, .no, .no, .no, .no] [1, 2] [1] (P := (_)) (l' := [(1, rV 1 0), (2, iV 0)]) (g' := [(1, some (32, .ds [iD 8, iD 0, iD 0, iD 1, iD 0, iD 1, iD 1, iD 1, iD 0, iD 0, iD 0, D.sl (dI .i32 l21) r22, iD 0, iD 0]))]) (nx' := 2) (by kernel_rfl) hF2_0 ?_
  have hx5 : brB 8 0 0 1 0 1 1 1 0 0 0 l21 r22 0 0 = true := BrV.ok (show (BrV 8 0 0 1 0 1 0 1 1 0 0 0 l21 r22 0 0) by with_reducible assumption)
  obtain ⟨o3, N14, k5, A6, l27, r28, W29, p210, f211, mi212, x13, hx6, hx7, hx8, hx9, hx10, hx11, hx12, hx13, hx14, hx15, hx16, hx17, hx18, hF13_0, hF13_1⟩ := (X_BPull 8 0 0 1 0 1 0 1 1 0 0 0 l21 r22 0 0 3 (by first | omega | with_reducible assumption | (simp <;> omega) | rfl | assumption) (by omega) (by omega) (by omega))
  refine AW.rgs [.no, .call [] (.tup [.agg [iC 1, .d (D.sl (dI .i32 o3) N14)], iE x13, .agg [iC 8, iC 0, iC 0, iC 1, iC 0, iC 1, iC 1, iC 1, iC A6, iC p210, iC f211, .d (D.sl (dI .i32 l27) r28), iC 0, iC mi212], iE 0]) [] 2 [] none, .no, .no, .no, .no, .no, .no, .no, .no, .no, .no, .no] [2, 3, 4, 5, 6] [4, 5] (P := (_)) (l' := [(2, iV 0), (3, rV 4 0), (4, iV x13), (5, rV 5 0), (6, iV 0)]) (g' := [(4, some (34, .ds [iD 1, D.sl (dI .i32 o3) N14])), (5, some (32, .ds [iD 8, iD 0, iD 0, iD 1, iD 0, iD 1, iD 1, iD 1, iD A6, iD p210, iD f211, D.sl (dI .i32 l27) r28, iD 0, iD mi212]))]) (nx' := 6) (by kernel_rfl) hF13_0 ?_
  have hx19 : k5 = 0 ∧ W29 = 0 ∧ p210 = 0 := pls_sane (show (PLS 0 0 1 0 1 0 1 1 0 0 l21 3 o3 k5 A6 l27 W29 p210 f211) by with_reducible assumption)
  have hx20 : List.length o3 = 3 := BV.len (show (BV 1 3 o3) by with_reducible assumption)
  have hx21 : brB 8 0 0 1 0 1 1 1 A6 p210 f211 l27 r28 0 mi212 = true := BrV.ok (show (BrV 8 0 0 1 0 1 W29 1 1 A6 p210 f211 l27 r28 0 mi212) by with_reducible assumption)
  obtain ⟨l214, r215, k16, W217, lo218, x19, hx22, hx23, hx24, hx25, hx26, hx27, hx28, hx29, hF19_0⟩ := (XO_BPush 8 0 0 1 0 1 W29 1 1 A6 p210 f211 l27 r28 0 mi212 10 (List.replicate 10 0) 10 (by first | omega | with_reducible assumption | (simp <;> omega) | rfl | assumption) (by first | omega | with_reducible assumption | (simp <;> omega) | rfl | assumption) (by first | omega | with_reducible assumption | (simp <;> omega) | rfl | assumption) (by omega))
  refine AW.rgs [.no, .mk 10 10 (dI .i32 (List.replicate 10 0)), .no, .call [] (.tup [.agg [iC 8, iC 0, iC 0, iC 1, iC 0, iC 1, iC 1, iC 1, iC A6, iC p210, iC f211, .own 0 0 r215 1 true, iC lo218, iC mi212], iE x19, iE 0]) [(0, some (21, .ds (dI .i32 l214)))] 1 [none] none, .no, .no, .no, .no, .no, .no, .no, .no] [2, 3, 4, 6, 7, 8, 9] [4, 7, 8] (P := ((10 : Int) = 10) ∧ ((10 : Int) = 10) ∧ (10 ≤ 10) ∧ (4 * 10 ≤ 281474976710656) ∧ (List.replicate 10 (D.lit (.int .i32 0)) = dI .i32 (List.replicate 10 0)) ∧ ((dI .i32 (List.replicate 10 0)).length = 10 * 1) ∧ (noSlPV (.tup [.agg [iC 8, iC 0, iC 0, iC 1, iC 0, iC 1, iC 1, iC 1, iC A6, iC p210, iC f211, .own 0 0 r215 1 true, iC lo218, iC mi212], iE x19, iE 0]) = true) ∧ ((dI .i32 l214).all noSlD = true) ∧ (_)) (l' := [(2, iV 0), (3, rV 4 0), (4, iV x13), (6, iV 0), (7, rV 8 0), (8, iV x19), (9, iV 0)]) (g' := [(4, some (34, .ds [iD 1, D.sl (dI .i32 o3) N14])), (7, some (21, .ds (dI .i32 l214))), (8, some (32, .cs [iC 8, iC 0, iC 0, iC 1, iC 0, iC 1, iC 1, iC 1, iC A6, iC p210, iC f211, .own 7 0 r215 1 true, iC lo218, iC mi212]))]) (nx' := 9) (by kernel_rfl) ⟨rfl, rfl, (by omega), (by omega), (dI_rep _ _ _), (by first | omega | (simp only [prV_len, rwV_len, dI_len, List.length_append, List.length_cons, List.length_nil, List.length_take, List.length_drop, List.length_replicate, List.length_set, List.length_map, List.length_reverse, Nat.mul_one] <;> omega) | rfl), rfl, (by first | exact dI_ns _ _ | rfl), hF19_0⟩ ?_
  have hx30 : brB 8 0 0 1 0 1 1 1 A6 p210 f211 l214 r215 lo218 mi212 = true := BrV.ok (show (BrV 8 0 0 1 0 1 W217 1 1 A6 p210 f211 l214 r215 lo218 mi212) by with_reducible assumption)
  refine AW.rgs [.no, .b true, .no, .no, .b true, .no, .no, .no, .b true, .no, .no, .no, .no, .no, .b true, .no, .no, .no, .b true, .no, .no, .no, .b true, .no, .no, .no, .call [] (iV ((W217 : Nat) : Int)) [] 0 [none] none, .b true, .no, .no, .no, .no, .b true, .no, .no, .no, .no, .b true, .no, .no, .no, .call [] (bV true) [] 0 [none] none, .no, .no] [0] [] (P := (((0 : Int) = 0)) ∧ (((0 : Int) = 0)) ∧ (((0 : Int) = 0)) ∧ ((((N14 : Nat) : Int) = 3)) ∧ ((x13 = 3)) ∧ ((x19 = 2)) ∧ ((dI .i32 l214).length = r215 * 1) ∧ (noSlPV (iV ((W217 : Nat) : Int)) = true) ∧ (_) ∧ ((((W217 : Nat) : Int) = 8)) ∧ ((lo218 = 2)) ∧ ((mi212 = 3)) ∧ ((dI .i32 l214).length = r215 * 1) ∧ (noSlPV (bV true) = true) ∧ (Fun 20 [.agg [iC 8, iC 0, iC 0, iC 1, iC 0, iC 1, iC 1, iC 1, iC A6, iC p210, iC f211, .d (D.sl (dI .i32 l214) r215), iC lo218, iC mi212]] (toG []) 0 (bV true) (toG []) 0)) (l' := [(0, bV true)]) (g' := []) (nx' := 9) (by kernel_rfl) ⟨(by omega), (by omega), (by omega), (by omega), (by omega), (by omega), (by first | omega | (simp only [prV_len, rwV_len, dI_len, List.length_append, List.length_cons, List.length_nil, List.length_take, List.length_drop, List.length_replicate, List.length_set, List.length_map, List.length_reverse, Nat.mul_one] <;> omega) | rfl), rfl, (K_Fill 8 0 0 1 0 1 W217 1 1 A6 p210 f211 l214 r215 lo218 mi212 (by first | omega | with_reducible assumption | (simp <;> omega) | rfl | assumption)), (by omega), (by omega), (by omega), (by first | omega | (simp only [prV_len, rwV_len, dI_len, List.length_append, List.length_cons, List.length_nil, List.length_take, List.length_drop, List.length_replicate, List.length_set, List.length_map, List.length_reverse, Nat.mul_one] <;> omega) | rfl), rfl, (by have h0 := (K_BValid 8 0 0 1 0 1 1 1 A6 p210 f211 l214 r215 lo218 mi212 (by omega) (by omega)); rw [hx30] at h0; exact h0)⟩ ?_
  refine AW.ret ?_
  exact EndP.of (.inr rfl) [] (P := (true = true)) (by kernel_rfl) rfl
end Go.Proofs.Ytkneaefmjdlegaa
