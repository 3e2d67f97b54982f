/- Merged texts. -/
import Derived.Test.YtcfmjpnffembpaaGreatZL10K
import Derived.Test.YtcfmjpnffembpaaGreatZJ10
import Derived.Test.YtcfmjpnffembpaaGreatZL10S
import Derived.Test.YtcfmjpnffembpaaGreatZOpenT
import Derived.Test.YtcfmjpnffembpaaGreatZL10O
import Derived.Test.YtcfmjpnffembpaaGreatZL10X
import Derived.Test.YtcfmjpnffembpaaGreatZY10
import Derived.Test.YtcfmjpnffembpaaGreatZL10Z
namespace Go.Proofs.YtcfmjpnffembpaaGreat
open Go.ChangeShapes Go.WideShapes Go.ChangeAt Go.RowKit
set_option linter.unusedVariables false
set_option linter.unusedSimpArgs false
set_option maxHeartbeats 4000000
set_option maxRecDepth 100000
theorem pG {p : Prop} (h : p := by (simp only [qH, qE, uA, List.length_append, List.length_cons, List.length_nil, List.length_take, List.length_drop, List.length_replicate, List.length_set, List.length_map, List.length_reverse, Nat.mul_one] <;> omega)) : p := h
theorem u0u (a : Int)  : Fun 55 [iE a] (kE []) 0 (.e (.agg [.d (D.sl (dI .i64 ([a, a] : List Int)) 1)])) (kE []) 0 := by
 refine Fun.mk (n := 8) Tryz.func55 rfl rfl (Nat.le_of_ble_eq_true rfl) ?_
 intro cx hcx
 refine kI [.no] True [(0, iV a), (2, rV 0 0)] [(0, some (56, .ds [qR]))] 1 trivial ?_
 refine kI (kT 6 []) True [(2, rV 0 0)] [(0, some (56, .cs [.own 1 0 1 2 true])), (1, some (77, .ds [iD a, iD a]))] 2 trivial ?_
 refine AW.freeze 1 (l' := [(2, rV 0 0)]) (g' := [(0, some (56, .ds [D.sl [iD a, iD a] 1]))]) rfl (FzS.cons rfl (.same _) FzS.nil) (FzG.to (bc := .cs [.own 1 0 1 2 true]) rfl (by rfl) (FzL.cons (@FzC.own 1 ([iD a, iD a] : List D) 0 (1 : Nat) 2 true ([iD a, iD a] : List D) (by rw [List.drop_zero, List.take_of_length_le (by (simp only [qH, qE, uA, List.length_append, List.length_cons, List.length_nil, List.length_take, List.length_drop, List.length_replicate, List.length_set, List.length_map, List.length_reverse, Nat.mul_one] <;> omega))]) pG) FzL.nil) FzG.nil) ?_
 refine AW.ret ?_
 exact kC (.inr rfl) [] (P := (((dI .i64 ([a, a] : List Int)) : List D) = [iD a, iD a]) ∧ (kG 1)) zk ⟨(by rfl), rfl⟩
theorem wY (k r : Int) (m : List Int) (n : Nat) (z : Int) (hm : List.length m = n) (h1 : n ≤ 1000000) : Fun 23 [.agg [iC k, iC r, .d (D.sl (dI .i64 m) n), iC z]] (kE []) 0 (.e (qW (bY k r m z))) (kE []) 0 := by
 refine Fun.mk (n := 32) Tryz.func23 rfl rfl (Nat.le_of_ble_eq_true rfl) ?_
 intro cx hcx
 refine kI [.no, .no] True [(1, rV 0 0)] [(0, some (27, .ds [iD k, iD r, dl m n, iD z]))] 1 trivial ?_
 refine AW.seq ?_
 rcases Bool.eq_false_or_eq_true (decide (1 ≤ k ∧ k ≤ 7)) with hx1 | hx1
 ·have hx2 : (((1 : Int) ≤ k) ∧ (k ≤ 7)) := of_decide_eq_true hx1
  obtain rfl : n = (List.length m) := (by omega)
  refine kI [.no, .no, .no, .call [] (bV true) [] 0 [] none, .no] (Fun 54 [iE k] (kE []) 0 (bV true) (kE []) 0) [(1, rV 0 0), (9, bV false)] [(0, some (27, .ds [iD k, iD r, dl m (List.length m), iD z]))] 1 (by have h0 := (i6 k); rw [hx1] at h0; exact h0) ?_
  refine q8 ?_
  refine kN [.no] True [(1, rV 0 0), (3, .e (.c (.fn 55 [])))] trivial ?_
  refine kI (.no :: .no :: .no :: .n2 (Int.toNat k) 0 :: kT 4 (.call [] (.e (.agg [.d (dl ([r, r] : List Int) 1)])) [] 0 [] none :: .no :: .no :: .no :: (.fz (.call [] (oV 0 0 (List.length m) 1) [(0, some (3, .ds (dI .i64 m)))] 1 [] none)) :: kT 4 [.call [] (.e (.agg [.d (dl ([z, z] : List Int) 1)])) [] 0 [] none, .no, .no, .no])) (((k : Int) = (Int.toNat k : Int)) ∧ ((Int.toNat k) ≤ 64) ∧ (_) ∧ (_) ∧ (((dI .i64 m) : List D).length = (List.length m) * 1) ∧ (_)) [(4, oV 3 0 1 4)] [(2, some (23, .ds [dl m (List.length m)])), (3, some (59, .cs [iC (IntKind.i64.wrap (1 * (((2 ^ (Int.toNat k)) : Nat) : Int))), .d (dl ([r, r] : List Int) 1), .own 2 0 1 1 true, .d (dl ([z, z] : List Int) 1)]))] 4 ⟨zo, zo, (u0u r), (cU m (List.length m) rfl zo), pG, (u0u z)⟩ ?_
  refine AW.freeze 2 (l' := [(4, oV 3 0 1 4)]) (g' := [(3, some (59, .ds [iD (IntKind.i64.wrap (1 * (((2 ^ (Int.toNat k)) : Nat) : Int))), dl ([r, r] : List Int) 1, D.sl [dl m (List.length m)] 1, dl ([z, z] : List Int) 1]))]) rfl (FzS.cons rfl (.same _) FzS.nil) (FzG.to (bc := .cs [iC (IntKind.i64.wrap (1 * (((2 ^ (Int.toNat k)) : Nat) : Int))), .d (dl ([r, r] : List Int) 1), .own 2 0 1 1 true, .d (dl ([z, z] : List Int) 1)]) rfl (by rfl) (FzL.cons (.same _) (FzL.cons (.same _) (FzL.cons (@FzC.own 2 ([dl m (List.length m)] : List D) 0 (1 : Nat) 1 true ([dl m (List.length m)] : List D) (by rw [List.drop_zero, Nat.mul_one, List.take_of_length_le (by (simp only [qH, qE, uA, List.length_append, List.length_cons, List.length_nil, List.length_take, List.length_drop, List.length_replicate, List.length_set, List.length_map, List.length_reverse, Nat.mul_one] <;> omega))]) pG) (FzL.cons (.same _) FzL.nil)))) FzG.nil) ?_
  refine AW.freeze 3 (l' := [(4, qJ [iD (IntKind.i64.wrap (1 * (((2 ^ (Int.toNat k)) : Nat) : Int))), dl ([r, r] : List Int) 1, D.sl [dl m (List.length m)] 1, dl ([z, z] : List Int) 1] 1)]) (g' := []) rfl (FzS.cons rfl (.e (.c (@FzC.own 3 ([iD (IntKind.i64.wrap (1 * (((2 ^ (Int.toNat k)) : Nat) : Int))), dl ([r, r] : List Int) 1, D.sl [dl m (List.length m)] 1, dl ([z, z] : List Int) 1] : List D) 0 (1 : Nat) 4 true ([iD (IntKind.i64.wrap (1 * (((2 ^ (Int.toNat k)) : Nat) : Int))), dl ([r, r] : List Int) 1, D.sl [dl m (List.length m)] 1, dl ([z, z] : List Int) 1] : List D) (by rw [List.drop_zero, List.take_of_length_le (by (simp only [qH, qE, uA, List.length_append, List.length_cons, List.length_nil, List.length_take, List.length_drop, List.length_replicate, List.length_set, List.length_map, List.length_reverse, Nat.mul_one] <;> omega))]) pG))) FzS.nil) FzG.nil ?_
  rw [show ([iD (IntKind.i64.wrap (1 * (((2 ^ (Int.toNat k)) : Nat) : Int))), D.sl (dI .i64 ([r, r] : List Int)) 1, D.sl [D.sl (dI .i64 m) (List.length m)] 1, D.sl (dI .i64 ([z, z] : List Int)) 1] : List D) = (kP (oE k r m z)) from rfl]
  have hx3 : BsW (oE k r m z) := k3f k r m z zo
  have hx4 : ((List.length (kH (oE k r m z))) ≤ 1) := (by have h9 := c9 (oE k r m z); omega)
  refine kI [.no, .call [] (.e (qW (kH (oE k r m z)))) [] 0 [] none, .no] _ [(2, .e (qW (kH (oE k r m z))))] [] 4 (i9 (oE k r m z) 1 (by (simp only [qH, qE, List.length_append, List.length_cons, List.length_nil, List.length_take, List.length_drop, List.length_replicate, List.length_set] <;> omega)) zo (kZ : BsW (oE k r m z))) ?_
  have hz1 : bY k r m z = kH (siX k r m z) := if_pos (by omega)
  refine AW.ret ?_
  exact kC (.inr rfl) [] (P := (((kP (bY k r m z)) : List D) = (kP (kH (oE k r m z)))) ∧ (((List.length (bY k r m z)) : Nat) = (List.length (kH (oE k r m z))))) zk ⟨(by (rw [hz1]; rfl)), (by (rw [hz1]; rfl))⟩
 ·have hx5 : ¬ (((1 : Int) ≤ k) ∧ (k ≤ 7)) := of_decide_eq_false hx1
  obtain rfl : n = (List.length m) := (by omega)
  refine kI [.no, .no, .no, .call [] (bV false) [] 0 [] none, .no] (Fun 54 [iE k] (kE []) 0 (bV false) (kE []) 0) [(1, rV 0 0), (9, bV true)] [(0, some (27, .ds [iD k, iD r, dl m (List.length m), iD z]))] 1 (by have h0 := (i6 k); rw [hx1] at h0; exact h0) ?_
  refine zt ?_
  refine kI [.no] True [(2, nV)] [] 1 trivial ?_
  have hz1 : bY k r m z = [] := if_neg (by omega)
  refine yV (l' := [(2, qJ ([] : List D) 0)]) (g' := []) (NlS.cons rfl (.e (.c .nil)) NlS.nil) NlG.nil ?_
  refine AW.ret ?_
  exact kC (.inr rfl) [] (P := (((kP (bY k r m z)) : List D) = ([] : List D)) ∧ (((List.length (bY k r m z)) : Nat) = 0)) zk ⟨(by (rw [hz1]; rfl)), (by (rw [hz1]; rfl))⟩
end Go.Proofs.YtcfmjpnffembpaaGreat
namespace Go.Proofs.YtcfmjpnffembpaaGreat
open Go.ChangeShapes Go.WideShapes Go.ChangeAt Go.RowKit
set_option linter.unusedVariables false
set_option linter.unusedSimpArgs false
set_option maxHeartbeats 4000000
set_option maxRecDepth 100000
abbrev aE (ck : Int) (cr : Int) (cm : List Int) (cn : Nat) (cz : Int) : BC := .ds [iD ck, iD cr, D.sl (dI .i64 cm) cn, iD cz]
theorem u73 (us : List Bx) (un : Nat) (ck cr : Int) (cm : List Int) (cn : Nat) (cz : Int) (s : List Int) (n : Nat) (hy : Byt s) (hn : List.length s = n) (h1 : n ≤ 9223372036854775807) (hun : List.length us = un) (hu1 : un ≤ 9223372036854775807) (hI : BsI us) (hcn : List.length cm = cn) (hc1 : cn ≤ 9223372036854775807) (hck : -9223372036854775808 ≤ ck ∧ ck ≤ 9223372036854775807) (hcr : -9223372036854775808 ≤ cr ∧ cr ≤ 9223372036854775807) (hcz : -9223372036854775808 ≤ cz ∧ cz ≤ 9223372036854775807) : Fun 3 [.c (.d (D.sl (kP us) un)), .agg [iC ck, iC cr, .d (D.sl (dI .i64 cm) cn), iC cz], .c (.d (D.sl (dI .u8 s) n))] (kE []) 0 (bV true) (kE []) 0 := by
  refine Fun.mk (n := 129) Tryz.func3 rfl rfl (Nat.le_of_ble_eq_true rfl) ?_
  intro cx hcx
  refine kI [.no, .no] True [(0, .e (kQ us un)), (2, sV .u8 s n), (4, rV 0 0)] [(0, some (27, (aE ck cr cm cn cz)))] 1 trivial ?_
  refine AW.seq ?_
  refine kN [.call [] (bV true) [] 0 [] none, .no] _ [(0, .e (kQ us un)), (2, sV .u8 s n), (4, rV 0 0), (22, bV false)] (u3a) ?_
  refine q8 ?_
  refine AW.seq ?_
  rcases Bool.eq_false_or_eq_true (kbB us) with hx1 | hx1
  · have hx2 : BsW us := (u5b hI hx1).1
    have hx3 : List.length us ≤ 9 := (u5b hI hx1).2
    by_cases hx4 : ((12 : Int) < ((cn : Nat) : Int))
    · refine zr (.no :: .call [] (bV true) [] 0 [] none :: kT 6 [.b true, .no]) [0, 2, 4, 32] [0] ((Fun 12 [.c (.d (D.sl (kP us) un)), iE 9] (kE []) 0 (bV true) (kE []) 0) ∧ (((12 : Int) < (cn : Int)))) [(0, .e (kQ us un)), (2, sV .u8 s n), (4, rV 0 0), (32, bV true)] [(0, some (27, (aE ck cr cm cn cz)))] 1 ⟨(by have h0 := (sT us un zo zo zo); rw [hx1] at h0; exact h0), zo⟩ ?_
      refine zt ?_
      refine kI [.no] True [(6, bV true)] [] 1 trivial ?_
      refine AW.ret ?_
      exact kC (.inr rfl) [] (P := (true = true)) zk rfl
    · refine zr (.no :: .call [] (bV true) [] 0 [] none :: kT 6 [.b false, .no]) [0, 2, 4, 32] [0] ((Fun 12 [.c (.d (D.sl (kP us) un)), iE 9] (kE []) 0 (bV true) (kE []) 0) ∧ (¬ ((12 : Int) < (cn : Int)))) [(0, .e (kQ us un)), (2, sV .u8 s n), (4, rV 0 0), (32, bV false)] [(0, some (27, (aE ck cr cm cn cz)))] 1 ⟨(by have h0 := (sT us un zo zo zo); rw [hx1] at h0; exact h0), zo⟩ ?_
      refine q8 ?_
      obtain ⟨xs1, bs2, k3, r4, z5, m6, q7, hx5, hx6, hx7, hx8, hx9, hF7⟩ := (u3e s n (kZ : Byt s) zo zo)
      refine kI (.no :: .call [] (.tup [.c (.d (D.sl (kP xs1) (List.length xs1))), .c (.d (D.sl (kP bs2) (List.length bs2))), .agg [iC k3, iC r4, .d (dl m6 (List.length m6)), iC z5], .c (.ptr 0 0)]) [(0, some (95, .ds [db q7 (List.length q7)]))] 1 [] none :: kT 10 []) _ [(0, .e (kQ us un)), (4, rV 0 0), (7, .e (qW xs1)), (8, .e (qW bs2)), (9, rV 2 0)] [(0, some (27, (aE ck cr cm cn cz))), (2, some (27, .ds [iD k3, iD r4, dl m6 (List.length m6), iD z5]))] 3 hF7 ?_
      refine AW.seq ?_
      refine kI (kT 6 []) True [(4, rV 0 0), (7, .e (qW xs1)), (9, rV 2 0), (43, oV 3 0 3 1), (44, iV 3), (45, iV 0)] [(0, some (27, (aE ck cr cm cn cz))), (2, some (27, .ds [iD k3, iD r4, dl m6 (List.length m6), iD z5])), (3, some (22, .ds [D.sl (kP us) un, D.sl (kP xs1) (List.length xs1), D.sl (kP bs2) (List.length bs2)]))] 4 trivial ?_
      refine AW.block ?_
      refine AW.rounds 4 ?_
      refine AWr.join hcx [(4, rV 0 0), (7, .e (qW xs1)), (9, rV 2 0), (43, oV 3 0 3 1), (44, iV 3), (45, iV 1)] [(0, some (27, (aE ck cr cm cn cz))), (2, some (27, .ds [iD k3, iD r4, dl m6 (List.length m6), iD z5])), (3, some (22, .ds [D.sl (kP us) un, D.sl (kP xs1) (List.length xs1), D.sl (kP bs2) (List.length bs2)]))] 4 ?_ ?_
      · refine zr [.b true] [4, 7, 9, 43, 44, 45, 46] [0, 2, 3] (((0 : Int) < 3)) [(4, rV 0 0), (7, .e (qW xs1)), (9, rV 2 0), (43, oV 3 0 3 1), (44, iV 3), (45, iV 0), (46, bV true)] [(0, some (27, (aE ck cr cm cn cz))), (2, some (27, .ds [iD k3, iD r4, dl m6 (List.length m6), iD z5])), (3, some (22, .ds [D.sl (kP us) un, D.sl (kP xs1) (List.length xs1), D.sl (kP bs2) (List.length bs2)]))] 4 zo ?_
        refine AW.seq ?_
        refine yW ?_
        refine AW.seq ?_
        refine AW.block ?_
        refine kI [.n2 0 0, .no, .no] ((kM 0) ∧ ((0 : Nat) < 3) ∧ ((0 : Nat) + 0 * 1 = 0)) [(4, rV 0 0), (7, .e (qW xs1)), (9, rV 2 0), (12, .e (kQ us un)), (43, oV 3 0 3 1), (44, iV 3), (45, iV 0)] [(0, some (27, (aE ck cr cm cn cz))), (2, some (27, .ds [iD k3, iD r4, dl m6 (List.length m6), iD z5])), (3, some (22, .ds [D.sl (kP us) un, D.sl (kP xs1) (List.length xs1), D.sl (kP bs2) (List.length bs2)]))] 4 ⟨rfl, zo, zo⟩ ?_
        have hx10 : ((List.length (yA us)) ≤ un) := (Nat.le_trans (e7 us) (Nat.le_of_eq (zo)))
        have hx11 : (((0 : Int) ≤ (aA us)) ∧ ((aA us) ≤ 1)) := b7 us
        refine kN (.no :: .call [] (.tup [.c (.d (D.sl (kP (yA us)) (List.length (yA us)))), iE (aA us)]) [] 0 [] none :: kT 5 []) _ [(4, rV 0 0), (7, .e (qW xs1)), (9, rV 2 0), (12, .e (kQ us un)), (13, .e (qW (yA us))), (14, iV (aA us)), (43, oV 3 0 3 1), (44, iV 3), (45, iV 0)] (k1k us un zo zo (kZ : BsW us)) ?_
        have hx12 : ((List.length (yA us)) ≤ un) := (Nat.le_trans (e7 us) (Nat.le_of_eq (zo)))
        have hx13 : (((0 : Int) ≤ (aA us)) ∧ ((aA us) ≤ 1)) := b7 us
        refine kN (.no :: .call [] (.tup [.c (.d (D.sl (kP (yA us)) (List.length (yA us)))), iE (aA us)]) [] 0 [] none :: kT 5 []) _ [(4, rV 0 0), (7, .e (qW xs1)), (9, rV 2 0), (12, .e (kQ us un)), (13, .e (qW (yA us))), (14, iV (aA us)), (15, .e (qW (yA us))), (16, iV (aA us)), (43, oV 3 0 3 1), (44, iV 3), (45, iV 0)] (k1g us un zo zo (kZ : BsW us)) ?_
        have hx14 : (((0 : Int) ≤ (aM xs1 us)) ∧ ((aM xs1 us) ≤ 3)) := d8 xs1 us
        have hx15 : ((List.length (yB xs1 us)) ≤ 64) := gV xs1 us
        refine kN (.no :: .no :: .call [] (.tup [.c (.d (D.sl (kP (yB xs1 us)) (List.length (yB xs1 us)))), iE (aM xs1 us)]) [] 0 [] none :: kT 5 []) _ [(4, rV 0 0), (7, .e (qW xs1)), (9, rV 2 0), (12, .e (kQ us un)), (13, .e (qW (yA us))), (14, iV (aA us)), (15, .e (qW (yA us))), (16, iV (aA us)), (17, .e (qW (yB xs1 us))), (18, iV (aM xs1 us)), (43, oV 3 0 3 1), (44, iV 3), (45, iV 0)] (k78 xs1 us (List.length xs1) un rfl zo zo zo (kZ : BsW xs1) (kZ : BsW us)) ?_
        have hx16 : (((0 : Int) ≤ (aM xs1 us)) ∧ ((aM xs1 us) ≤ 3)) := d8 xs1 us
        have hx17 : ((List.length (yB xs1 us)) ≤ 64) := gV xs1 us
        refine kN (.no :: .no :: .call [] (.tup [.c (.d (D.sl (kP (yB xs1 us)) (List.length (yB xs1 us)))), iE (aM xs1 us)]) [] 0 [] none :: kT 5 []) _ [(4, rV 0 0), (7, .e (qW xs1)), (9, rV 2 0), (12, .e (kQ us un)), (13, .e (qW (yA us))), (14, iV (aA us)), (15, .e (qW (yA us))), (16, iV (aA us)), (17, .e (qW (yB xs1 us))), (18, iV (aM xs1 us)), (19, .e (qW (yB xs1 us))), (20, iV (aM xs1 us)), (43, oV 3 0 3 1), (44, iV 3), (45, iV 0)] (k71 xs1 us (List.length xs1) un rfl zo zo zo (kZ : BsW xs1) (kZ : BsW us)) ?_
        have hx18 : xA (yA us) (yA us) = true := cM _
        have hx19 : xA (yB xs1 us) (yB xs1 us) = true := cM _
        refine kN (.no :: .call [] (qS (D.lit (.bool (aJ us)))) [] 0 [] none :: .no :: .call [] (qS (D.lit (.bool (aJ us)))) [] 0 [] none :: .b false :: .no :: .no :: .no :: .b false :: kT 4 (.call [] (bV true) [] 0 [] none :: kT 5 (.b false :: kT 4 (.call [] (bV true) [] 0 [] none :: kT 5 (.call [] (qS (D.lit (.bool (dT (kH us) ck cr cm cz)))) [] 0 [] none :: .no :: .no :: .call [] (qS (D.lit (.bool (dT (kH us) ck cr cm cz)))) [] 0 [] none :: .b false :: kT 4 [.call [] (qS (D.lit (.bool (dT (kH us) k3 r4 m6 z5)))) [] 0 [] none, .no, .no, .call [] (qS (D.lit (.bool (dT (kH us) k3 r4 m6 z5)))) [] 0 [] none, .b false, .no]))))) ((_) ∧ (_) ∧ ((!((aJ us) == (aJ us))) = false) ∧ (¬ ((aA us) ≠ (aA us))) ∧ (Fun 20 [.c (.d (D.sl (kP (yA us)) (List.length (yA us)))), .c (.d (D.sl (kP (yA us)) (List.length (yA us))))] (kE []) 0 (bV true) (kE []) 0) ∧ (¬ ((aM xs1 us) ≠ (aM xs1 us))) ∧ (Fun 20 [.c (.d (D.sl (kP (yB xs1 us)) (List.length (yB xs1 us)))), .c (.d (D.sl (kP (yB xs1 us)) (List.length (yB xs1 us))))] (kE []) 0 (bV true) (kE []) 0) ∧ (_) ∧ (_) ∧ ((!((dT (kH us) ck cr cm cz) == (dT (kH us) ck cr cm cz))) = false) ∧ (_) ∧ (_) ∧ ((!((dT (kH us) k3 r4 m6 z5) == (dT (kH us) k3 r4 m6 z5))) = false)) [(4, rV 0 0), (7, .e (qW xs1)), (9, rV 2 0), (43, oV 3 0 3 1), (44, iV 3), (45, iV 0), (115, bV false)] ⟨(v9 us un zo zo (kZ : BsW us)), (vJ us un zo zo (kZ : BsW us)), (by simp), zo, (by have h0 := (fI (yA us) (yA us) (List.length (yA us)) (List.length (yA us)) rfl rfl zo zo (mO (kZ : BsW us)) (mO (kZ : BsW us))); rw [hx18] at h0; exact h0), zo, (by have h0 := (fI (yB xs1 us) (yB xs1 us) (List.length (yB xs1 us)) (List.length (yB xs1 us)) rfl rfl zo zo (oW (kZ : BsW xs1)) (oW (kZ : BsW xs1))); rw [hx19] at h0; exact h0), (nL us un ck cr cm cn cz zo zo (kZ : BsW us) zo zo), (o9 us un ck cr cm cn cz zo zo (kZ : BsW us) zo zo), (by simp), (nL us un k3 r4 m6 (List.length m6) z5 zo zo (kZ : BsW us) rfl zo), (o9 us un k3 r4 m6 (List.length m6) z5 zo zo (kZ : BsW us) rfl zo), (by simp)⟩ ?_
        refine q8 ?_
        refine uJ [.w, .no] (uZ (1 : Int)) [(4, rV 0 0), (7, .e (qW xs1)), (9, rV 2 0), (43, oV 3 0 3 1), (44, iV 3), (45, iV 1)] ⟨by omega, by omega⟩ ?_
        exact kX () [] (P := (kG 0) ∧ (kJ (kP xs1)) ∧ (kG (List.length xs1)) ∧ (kG 0) ∧ (kG 0) ∧ (kG 3) ∧ (kM 3) ∧ (kM 1) ∧ (kJ [iD ck, iD cr, dl cm cn, iD cz]) ∧ (kJ [iD k3, iD r4, dl m6 (List.length m6), iD z5]) ∧ (kJ [D.sl (kP us) un, D.sl (kP xs1) (List.length xs1), D.sl (kP bs2) (List.length bs2)])) zk ⟨rfl, rfl, rfl, rfl, rfl, rfl, rfl, rfl, rfl, rfl, rfl⟩ True.intro
      · refine AWr.join hcx [(4, rV 0 0), (7, .e (qW xs1)), (9, rV 2 0), (43, oV 3 0 3 1), (44, iV 3), (45, iV 2)] [(0, some (27, (aE ck cr cm cn cz))), (2, some (27, .ds [iD k3, iD r4, dl m6 (List.length m6), iD z5])), (3, some (22, .ds [D.sl (kP us) un, D.sl (kP xs1) (List.length xs1), D.sl (kP bs2) (List.length bs2)]))] 4 ?_ ?_
        · refine zr [.b true] [4, 7, 9, 43, 44, 45, 46] [0, 2, 3] (((1 : Int) < 3)) [(4, rV 0 0), (7, .e (qW xs1)), (9, rV 2 0), (43, oV 3 0 3 1), (44, iV 3), (45, iV 1), (46, bV true)] [(0, some (27, (aE ck cr cm cn cz))), (2, some (27, .ds [iD k3, iD r4, dl m6 (List.length m6), iD z5])), (3, some (22, .ds [D.sl (kP us) un, D.sl (kP xs1) (List.length xs1), D.sl (kP bs2) (List.length bs2)]))] 4 zo ?_
          refine AW.seq ?_
          refine yW ?_
          refine AW.seq ?_
          refine AW.block ?_
          refine kI [.n2 1 1, .no, .no] ((kM 1) ∧ ((1 : Nat) < 3) ∧ ((0 : Nat) + 1 * 1 = 1)) [(4, rV 0 0), (7, .e (qW xs1)), (9, rV 2 0), (12, .e (qW xs1)), (43, oV 3 0 3 1), (44, iV 3), (45, iV 1)] [(0, some (27, (aE ck cr cm cn cz))), (2, some (27, .ds [iD k3, iD r4, dl m6 (List.length m6), iD z5])), (3, some (22, .ds [D.sl (kP us) un, D.sl (kP xs1) (List.length xs1), D.sl (kP bs2) (List.length bs2)]))] 4 ⟨rfl, zo, zo⟩ ?_
          have hx20 : ((List.length (yA xs1)) ≤ (List.length xs1)) := (Nat.le_trans (e7 xs1) (Nat.le_of_eq (rfl)))
          have hx21 : (((0 : Int) ≤ (aA xs1)) ∧ ((aA xs1) ≤ 1)) := b7 xs1
          refine kN (.no :: .call [] (.tup [.c (.d (D.sl (kP (yA xs1)) (List.length (yA xs1)))), iE (aA xs1)]) [] 0 [] none :: kT 5 []) _ [(4, rV 0 0), (7, .e (qW xs1)), (9, rV 2 0), (12, .e (qW xs1)), (13, .e (qW (yA xs1))), (14, iV (aA xs1)), (43, oV 3 0 3 1), (44, iV 3), (45, iV 1)] (k1k xs1 (List.length xs1) rfl zo (kZ : BsW xs1)) ?_
          have hx22 : ((List.length (yA xs1)) ≤ (List.length xs1)) := (Nat.le_trans (e7 xs1) (Nat.le_of_eq (rfl)))
          have hx23 : (((0 : Int) ≤ (aA xs1)) ∧ ((aA xs1) ≤ 1)) := b7 xs1
          refine kN (.no :: .call [] (.tup [.c (.d (D.sl (kP (yA xs1)) (List.length (yA xs1)))), iE (aA xs1)]) [] 0 [] none :: kT 5 []) _ [(4, rV 0 0), (7, .e (qW xs1)), (9, rV 2 0), (12, .e (qW xs1)), (13, .e (qW (yA xs1))), (14, iV (aA xs1)), (15, .e (qW (yA xs1))), (16, iV (aA xs1)), (43, oV 3 0 3 1), (44, iV 3), (45, iV 1)] (k1g xs1 (List.length xs1) rfl zo (kZ : BsW xs1)) ?_
          have hx24 : (((0 : Int) ≤ (aM xs1 xs1)) ∧ ((aM xs1 xs1) ≤ 3)) := d8 xs1 xs1
          have hx25 : ((List.length (yB xs1 xs1)) ≤ 64) := gV xs1 xs1
          refine kN (.no :: .no :: .call [] (.tup [.c (.d (D.sl (kP (yB xs1 xs1)) (List.length (yB xs1 xs1)))), iE (aM xs1 xs1)]) [] 0 [] none :: kT 5 []) _ [(4, rV 0 0), (7, .e (qW xs1)), (9, rV 2 0), (12, .e (qW xs1)), (13, .e (qW (yA xs1))), (14, iV (aA xs1)), (15, .e (qW (yA xs1))), (16, iV (aA xs1)), (17, .e (qW (yB xs1 xs1))), (18, iV (aM xs1 xs1)), (43, oV 3 0 3 1), (44, iV 3), (45, iV 1)] (k78 xs1 xs1 (List.length xs1) (List.length xs1) rfl rfl zo zo (kZ : BsW xs1) (kZ : BsW xs1)) ?_
          have hx26 : (((0 : Int) ≤ (aM xs1 xs1)) ∧ ((aM xs1 xs1) ≤ 3)) := d8 xs1 xs1
          have hx27 : ((List.length (yB xs1 xs1)) ≤ 64) := gV xs1 xs1
          refine kN (.no :: .no :: .call [] (.tup [.c (.d (D.sl (kP (yB xs1 xs1)) (List.length (yB xs1 xs1)))), iE (aM xs1 xs1)]) [] 0 [] none :: kT 5 []) _ [(4, rV 0 0), (7, .e (qW xs1)), (9, rV 2 0), (12, .e (qW xs1)), (13, .e (qW (yA xs1))), (14, iV (aA xs1)), (15, .e (qW (yA xs1))), (16, iV (aA xs1)), (17, .e (qW (yB xs1 xs1))), (18, iV (aM xs1 xs1)), (19, .e (qW (yB xs1 xs1))), (20, iV (aM xs1 xs1)), (43, oV 3 0 3 1), (44, iV 3), (45, iV 1)] (k71 xs1 xs1 (List.length xs1) (List.length xs1) rfl rfl zo zo (kZ : BsW xs1) (kZ : BsW xs1)) ?_
          have hx28 : xA (yA xs1) (yA xs1) = true := cM _
          have hx29 : xA (yB xs1 xs1) (yB xs1 xs1) = true := cM _
          refine kN (.no :: .call [] (qS (D.lit (.bool (aJ xs1)))) [] 0 [] none :: .no :: .call [] (qS (D.lit (.bool (aJ xs1)))) [] 0 [] none :: .b false :: .no :: .no :: .no :: .b false :: kT 4 (.call [] (bV true) [] 0 [] none :: kT 5 (.b false :: kT 4 (.call [] (bV true) [] 0 [] none :: kT 5 (.call [] (qS (D.lit (.bool (dT (kH xs1) ck cr cm cz)))) [] 0 [] none :: .no :: .no :: .call [] (qS (D.lit (.bool (dT (kH xs1) ck cr cm cz)))) [] 0 [] none :: .b false :: kT 4 [.call [] (qS (D.lit (.bool (dT (kH xs1) k3 r4 m6 z5)))) [] 0 [] none, .no, .no, .call [] (qS (D.lit (.bool (dT (kH xs1) k3 r4 m6 z5)))) [] 0 [] none, .b false, .no]))))) ((_) ∧ (_) ∧ ((!((aJ xs1) == (aJ xs1))) = false) ∧ (¬ ((aA xs1) ≠ (aA xs1))) ∧ (Fun 20 [.c (.d (D.sl (kP (yA xs1)) (List.length (yA xs1)))), .c (.d (D.sl (kP (yA xs1)) (List.length (yA xs1))))] (kE []) 0 (bV true) (kE []) 0) ∧ (¬ ((aM xs1 xs1) ≠ (aM xs1 xs1))) ∧ (Fun 20 [.c (.d (D.sl (kP (yB xs1 xs1)) (List.length (yB xs1 xs1)))), .c (.d (D.sl (kP (yB xs1 xs1)) (List.length (yB xs1 xs1))))] (kE []) 0 (bV true) (kE []) 0) ∧ (_) ∧ (_) ∧ ((!((dT (kH xs1) ck cr cm cz) == (dT (kH xs1) ck cr cm cz))) = false) ∧ (_) ∧ (_) ∧ ((!((dT (kH xs1) k3 r4 m6 z5) == (dT (kH xs1) k3 r4 m6 z5))) = false)) [(4, rV 0 0), (7, .e (qW xs1)), (9, rV 2 0), (43, oV 3 0 3 1), (44, iV 3), (45, iV 1), (115, bV false)] ⟨(v9 xs1 (List.length xs1) rfl zo (kZ : BsW xs1)), (vJ xs1 (List.length xs1) rfl zo (kZ : BsW xs1)), (by simp), zo, (by have h0 := (fI (yA xs1) (yA xs1) (List.length (yA xs1)) (List.length (yA xs1)) rfl rfl zo zo (mO (kZ : BsW xs1)) (mO (kZ : BsW xs1))); rw [hx28] at h0; exact h0), zo, (by have h0 := (fI (yB xs1 xs1) (yB xs1 xs1) (List.length (yB xs1 xs1)) (List.length (yB xs1 xs1)) rfl rfl zo zo (oW (kZ : BsW xs1)) (oW (kZ : BsW xs1))); rw [hx29] at h0; exact h0), (nL xs1 (List.length xs1) ck cr cm cn cz rfl zo (kZ : BsW xs1) zo zo), (o9 xs1 (List.length xs1) ck cr cm cn cz rfl zo (kZ : BsW xs1) zo zo), (by simp), (nL xs1 (List.length xs1) k3 r4 m6 (List.length m6) z5 rfl zo (kZ : BsW xs1) rfl zo), (o9 xs1 (List.length xs1) k3 r4 m6 (List.length m6) z5 rfl zo (kZ : BsW xs1) rfl zo), (by simp)⟩ ?_
          refine q8 ?_
          refine uJ [.w, .no] (uZ (2 : Int)) [(4, rV 0 0), (7, .e (qW xs1)), (9, rV 2 0), (43, oV 3 0 3 1), (44, iV 3), (45, iV 2)] ⟨by omega, by omega⟩ ?_
          exact kX () [] (P := (kG 0) ∧ (kJ (kP xs1)) ∧ (kG (List.length xs1)) ∧ (kG 0) ∧ (kG 0) ∧ (kG 3) ∧ (kM 3) ∧ (kM 2) ∧ (kJ [iD ck, iD cr, dl cm cn, iD cz]) ∧ (kJ [iD k3, iD r4, dl m6 (List.length m6), iD z5]) ∧ (kJ [D.sl (kP us) un, D.sl (kP xs1) (List.length xs1), D.sl (kP bs2) (List.length bs2)])) zk ⟨rfl, rfl, rfl, rfl, rfl, rfl, rfl, rfl, rfl, rfl, rfl⟩ True.intro
        · refine AWr.join hcx [(4, rV 0 0), (7, .e (qW xs1)), (9, rV 2 0), (43, oV 3 0 3 1), (44, iV 3), (45, iV 3)] [(0, some (27, (aE ck cr cm cn cz))), (2, some (27, .ds [iD k3, iD r4, dl m6 (List.length m6), iD z5])), (3, some (22, .ds [D.sl (kP us) un, D.sl (kP xs1) (List.length xs1), D.sl (kP bs2) (List.length bs2)]))] 4 ?_ ?_
          · refine zr [.b true] [4, 7, 9, 43, 44, 45, 46] [0, 2, 3] (((2 : Int) < 3)) [(4, rV 0 0), (7, .e (qW xs1)), (9, rV 2 0), (43, oV 3 0 3 1), (44, iV 3), (45, iV 2), (46, bV true)] [(0, some (27, (aE ck cr cm cn cz))), (2, some (27, .ds [iD k3, iD r4, dl m6 (List.length m6), iD z5])), (3, some (22, .ds [D.sl (kP us) un, D.sl (kP xs1) (List.length xs1), D.sl (kP bs2) (List.length bs2)]))] 4 zo ?_
            refine AW.seq ?_
            refine yW ?_
            refine AW.seq ?_
            refine AW.block ?_
            refine kI [.n2 2 2, .no, .no] ((kM 2) ∧ ((2 : Nat) < 3) ∧ ((0 : Nat) + 2 * 1 = 2)) [(4, rV 0 0), (7, .e (qW xs1)), (9, rV 2 0), (12, .e (qW bs2)), (43, oV 3 0 3 1), (44, iV 3), (45, iV 2)] [(0, some (27, (aE ck cr cm cn cz))), (2, some (27, .ds [iD k3, iD r4, dl m6 (List.length m6), iD z5])), (3, some (22, .ds [D.sl (kP us) un, D.sl (kP xs1) (List.length xs1), D.sl (kP bs2) (List.length bs2)]))] 4 ⟨rfl, zo, zo⟩ ?_
            have hx30 : ((List.length (yA bs2)) ≤ (List.length bs2)) := (Nat.le_trans (e7 bs2) (Nat.le_of_eq (rfl)))
            have hx31 : (((0 : Int) ≤ (aA bs2)) ∧ ((aA bs2) ≤ 1)) := b7 bs2
            refine kN (.no :: .call [] (.tup [.c (.d (D.sl (kP (yA bs2)) (List.length (yA bs2)))), iE (aA bs2)]) [] 0 [] none :: kT 5 []) _ [(4, rV 0 0), (7, .e (qW xs1)), (9, rV 2 0), (12, .e (qW bs2)), (13, .e (qW (yA bs2))), (14, iV (aA bs2)), (43, oV 3 0 3 1), (44, iV 3), (45, iV 2)] (k1k bs2 (List.length bs2) rfl zo (kZ : BsW bs2)) ?_
            have hx32 : ((List.length (yA bs2)) ≤ (List.length bs2)) := (Nat.le_trans (e7 bs2) (Nat.le_of_eq (rfl)))
            have hx33 : (((0 : Int) ≤ (aA bs2)) ∧ ((aA bs2) ≤ 1)) := b7 bs2
            refine kN (.no :: .call [] (.tup [.c (.d (D.sl (kP (yA bs2)) (List.length (yA bs2)))), iE (aA bs2)]) [] 0 [] none :: kT 5 []) _ [(4, rV 0 0), (7, .e (qW xs1)), (9, rV 2 0), (12, .e (qW bs2)), (13, .e (qW (yA bs2))), (14, iV (aA bs2)), (15, .e (qW (yA bs2))), (16, iV (aA bs2)), (43, oV 3 0 3 1), (44, iV 3), (45, iV 2)] (k1g bs2 (List.length bs2) rfl zo (kZ : BsW bs2)) ?_
            have hx34 : (((0 : Int) ≤ (aM xs1 bs2)) ∧ ((aM xs1 bs2) ≤ 3)) := d8 xs1 bs2
            have hx35 : ((List.length (yB xs1 bs2)) ≤ 64) := gV xs1 bs2
            refine kN (.no :: .no :: .call [] (.tup [.c (.d (D.sl (kP (yB xs1 bs2)) (List.length (yB xs1 bs2)))), iE (aM xs1 bs2)]) [] 0 [] none :: kT 5 []) _ [(4, rV 0 0), (7, .e (qW xs1)), (9, rV 2 0), (12, .e (qW bs2)), (13, .e (qW (yA bs2))), (14, iV (aA bs2)), (15, .e (qW (yA bs2))), (16, iV (aA bs2)), (17, .e (qW (yB xs1 bs2))), (18, iV (aM xs1 bs2)), (43, oV 3 0 3 1), (44, iV 3), (45, iV 2)] (k78 xs1 bs2 (List.length xs1) (List.length bs2) rfl rfl zo zo (kZ : BsW xs1) (kZ : BsW bs2)) ?_
            have hx36 : (((0 : Int) ≤ (aM xs1 bs2)) ∧ ((aM xs1 bs2) ≤ 3)) := d8 xs1 bs2
            have hx37 : ((List.length (yB xs1 bs2)) ≤ 64) := gV xs1 bs2
            refine kN (.no :: .no :: .call [] (.tup [.c (.d (D.sl (kP (yB xs1 bs2)) (List.length (yB xs1 bs2)))), iE (aM xs1 bs2)]) [] 0 [] none :: kT 5 []) _ [(4, rV 0 0), (7, .e (qW xs1)), (9, rV 2 0), (12, .e (qW bs2)), (13, .e (qW (yA bs2))), (14, iV (aA bs2)), (15, .e (qW (yA bs2))), (16, iV (aA bs2)), (17, .e (qW (yB xs1 bs2))), (18, iV (aM xs1 bs2)), (19, .e (qW (yB xs1 bs2))), (20, iV (aM xs1 bs2)), (43, oV 3 0 3 1), (44, iV 3), (45, iV 2)] (k71 xs1 bs2 (List.length xs1) (List.length bs2) rfl rfl zo zo (kZ : BsW xs1) (kZ : BsW bs2)) ?_
            have hx38 : xA (yA bs2) (yA bs2) = true := cM _
            have hx39 : xA (yB xs1 bs2) (yB xs1 bs2) = true := cM _
            refine kN (.no :: .call [] (qS (D.lit (.bool (aJ bs2)))) [] 0 [] none :: .no :: .call [] (qS (D.lit (.bool (aJ bs2)))) [] 0 [] none :: .b false :: .no :: .no :: .no :: .b false :: kT 4 (.call [] (bV true) [] 0 [] none :: kT 5 (.b false :: kT 4 (.call [] (bV true) [] 0 [] none :: kT 5 (.call [] (qS (D.lit (.bool (dT (kH bs2) ck cr cm cz)))) [] 0 [] none :: .no :: .no :: .call [] (qS (D.lit (.bool (dT (kH bs2) ck cr cm cz)))) [] 0 [] none :: .b false :: kT 4 [.call [] (qS (D.lit (.bool (dT (kH bs2) k3 r4 m6 z5)))) [] 0 [] none, .no, .no, .call [] (qS (D.lit (.bool (dT (kH bs2) k3 r4 m6 z5)))) [] 0 [] none, .b false, .no]))))) ((_) ∧ (_) ∧ ((!((aJ bs2) == (aJ bs2))) = false) ∧ (¬ ((aA bs2) ≠ (aA bs2))) ∧ (Fun 20 [.c (.d (D.sl (kP (yA bs2)) (List.length (yA bs2)))), .c (.d (D.sl (kP (yA bs2)) (List.length (yA bs2))))] (kE []) 0 (bV true) (kE []) 0) ∧ (¬ ((aM xs1 bs2) ≠ (aM xs1 bs2))) ∧ (Fun 20 [.c (.d (D.sl (kP (yB xs1 bs2)) (List.length (yB xs1 bs2)))), .c (.d (D.sl (kP (yB xs1 bs2)) (List.length (yB xs1 bs2))))] (kE []) 0 (bV true) (kE []) 0) ∧ (_) ∧ (_) ∧ ((!((dT (kH bs2) ck cr cm cz) == (dT (kH bs2) ck cr cm cz))) = false) ∧ (_) ∧ (_) ∧ ((!((dT (kH bs2) k3 r4 m6 z5) == (dT (kH bs2) k3 r4 m6 z5))) = false)) [(4, rV 0 0), (7, .e (qW xs1)), (9, rV 2 0), (43, oV 3 0 3 1), (44, iV 3), (45, iV 2), (115, bV false)] ⟨(v9 bs2 (List.length bs2) rfl zo (kZ : BsW bs2)), (vJ bs2 (List.length bs2) rfl zo (kZ : BsW bs2)), (by simp), zo, (by have h0 := (fI (yA bs2) (yA bs2) (List.length (yA bs2)) (List.length (yA bs2)) rfl rfl zo zo (mO (kZ : BsW bs2)) (mO (kZ : BsW bs2))); rw [hx38] at h0; exact h0), zo, (by have h0 := (fI (yB xs1 bs2) (yB xs1 bs2) (List.length (yB xs1 bs2)) (List.length (yB xs1 bs2)) rfl rfl zo zo (oW (kZ : BsW xs1)) (oW (kZ : BsW xs1))); rw [hx39] at h0; exact h0), (nL bs2 (List.length bs2) ck cr cm cn cz rfl zo (kZ : BsW bs2) zo zo), (o9 bs2 (List.length bs2) ck cr cm cn cz rfl zo (kZ : BsW bs2) zo zo), (by simp), (nL bs2 (List.length bs2) k3 r4 m6 (List.length m6) z5 rfl zo (kZ : BsW bs2) rfl zo), (o9 bs2 (List.length bs2) k3 r4 m6 (List.length m6) z5 rfl zo (kZ : BsW bs2) rfl zo), (by simp)⟩ ?_
            refine q8 ?_
            refine uJ [.w, .no] (uZ (3 : Int)) [(4, rV 0 0), (7, .e (qW xs1)), (9, rV 2 0), (43, oV 3 0 3 1), (44, iV 3), (45, iV 3)] ⟨by omega, by omega⟩ ?_
            exact kX () [] (P := (kG 0) ∧ (kJ (kP xs1)) ∧ (kG (List.length xs1)) ∧ (kG 0) ∧ (kG 0) ∧ (kG 3) ∧ (kM 3) ∧ (kM 3) ∧ (kJ [iD ck, iD cr, dl cm cn, iD cz]) ∧ (kJ [iD k3, iD r4, dl m6 (List.length m6), iD z5]) ∧ (kJ [D.sl (kP us) un, D.sl (kP xs1) (List.length xs1), D.sl (kP bs2) (List.length bs2)])) zk ⟨rfl, rfl, rfl, rfl, rfl, rfl, rfl, rfl, rfl, rfl, rfl⟩ True.intro
          · refine AWr.s ?_
            refine kI [.b false] (¬ ((3 : Int) < 3)) [(4, rV 0 0), (7, .e (qW xs1)), (9, rV 2 0), (43, oV 3 0 3 1), (44, iV 3), (45, iV 3), (46, bV false)] [(0, some (27, (aE ck cr cm cn cz))), (2, some (27, .ds [iD k3, iD r4, dl m6 (List.length m6), iD z5])), (3, some (22, .ds [D.sl (kP us) un, D.sl (kP xs1) (List.length xs1), D.sl (kP bs2) (List.length bs2)]))] 4 zo ?_
            refine AW.seq ?_
            refine zf ?_
            refine AW.exit ?_
            have hx40 : xA (bY ck cr cm cz) (bY ck cr cm cz) = true := cM _
            have hx41 : xA (bY k3 r4 m6 z5) (bY k3 r4 m6 z5) = true := cM _
            have hx42 : ((List.length (bY ck cr cm cz)) ≤ 1) := pX ck cr cm cz
            have hx43 : ((List.length (bY ck cr cm cz)) ≤ 1) := pX ck cr cm cz
            have hx44 : ((List.length (bY k3 r4 m6 z5)) ≤ 1) := pX k3 r4 m6 z5
            have hx45 : ((List.length (bY k3 r4 m6 z5)) ≤ 1) := pX k3 r4 m6 z5
            refine kI [.no, .call [] (.e (qW (bY ck cr cm cz))) [] 0 [] none, .no, .call [] (.e (qW (bY ck cr cm cz))) [] 0 [] none, .call [] (bV true) [] 0 [] none, .no, .no, .call [] (.e (qW (bY k3 r4 m6 z5))) [] 0 [] none, .no, .call [] (.e (qW (bY k3 r4 m6 z5))) [] 0 [] none, .call [] (bV true) [] 0 [] none, .no, .no] ((_) ∧ (_) ∧ (Fun 20 [.c (.d (D.sl (kP (bY ck cr cm cz)) (List.length (bY ck cr cm cz)))), .c (.d (D.sl (kP (bY ck cr cm cz)) (List.length (bY ck cr cm cz))))] (kE []) 0 (bV true) (kE []) 0) ∧ (_) ∧ (_) ∧ (Fun 20 [.c (.d (D.sl (kP (bY k3 r4 m6 z5)) (List.length (bY k3 r4 m6 z5)))), .c (.d (D.sl (kP (bY k3 r4 m6 z5)) (List.length (bY k3 r4 m6 z5))))] (kE []) 0 (bV true) (kE []) 0)) [(6, bV true)] [] 4 ⟨(wY ck cr cm cn cz zo zo), (wX ck cr cm cn cz zo zo), (by have h0 := (fI (bY ck cr cm cz) (bY ck cr cm cz) (List.length (bY ck cr cm cz)) (List.length (bY ck cr cm cz)) rfl rfl zo zo (k09 _ _ _ _ zo) (k09 _ _ _ _ zo)); rw [hx40] at h0; exact h0), (wY k3 r4 m6 (List.length m6) z5 rfl zo), (wX k3 r4 m6 (List.length m6) z5 rfl zo), (by have h0 := (fI (bY k3 r4 m6 z5) (bY k3 r4 m6 z5) (List.length (bY k3 r4 m6 z5)) (List.length (bY k3 r4 m6 z5)) rfl rfl zo zo (k09 _ _ _ _ zo) (k09 _ _ _ _ zo)); rw [hx41] at h0; exact h0)⟩ ?_
            refine AW.ret ?_
            exact kC (.inr rfl) [] (P := (true = true)) zk rfl
  · refine zr [.no, .call [] (bV false) [] 0 [] none, .no, .no, .no] [0, 2, 4, 32] [0] (Fun 12 [.c (.d (D.sl (kP us) un)), iE 9] (kE []) 0 (bV false) (kE []) 0) [(0, .e (kQ us un)), (2, sV .u8 s n), (4, rV 0 0), (32, bV true)] [(0, some (27, (aE ck cr cm cn cz)))] 1 (by have h0 := (sT us un zo zo zo); rw [hx1] at h0; exact h0) ?_
    refine zt ?_
    refine kI [.no] True [(6, bV true)] [] 1 trivial ?_
    refine AW.ret ?_
    exact kC (.inr rfl) [] (P := (true = true)) zk rfl
theorem Sl.max {k : IntKind} {w : World} {a : Option Addr} {len cap : Nat} {l : List Int} (h : Sl k w a len cap l) : List.length l ≤ 9223372036854775807 := by
  obtain ⟨h1, h2, h3, _⟩ := h
  unfold maxLen at h3
  omega
theorem z7 {w : World} {v0 v1 : Value} {g0 : D} {g1 : List D} (h0 : InC w tyB g0 v0) (h1 : InA w tyC g1 v1) {xa : Option Addr} {xl xc : Nat} {s : List Int} (hs : Sl .u8 w xa xl xc s) : Calls Tryz.prog 3 #[v0, v1, .slice xa xl xc] w fun e w' => e = .returned (.bool true) ∧ Below w.heap.size w w' := by
  obtain ⟨us, e0, l0, i0⟩ := k99 h0
  obtain ⟨ck, cr, cm, cz, e1, a1, a2, a3, a4⟩ := k96 h1
  have r0 := h0.2
  have r1 := h1.2
  rw [e0] at r0
  rw [e1] at r1
  exact (u73 us (List.length us) ck cr cm (List.length cm) cz s (List.length s) (u3g fun x hx => bounds_u8 (hs.wf x hx)) rfl hs.max rfl l0 i0 rfl a3 a1 a2 a4).walk (args := [v0, v1, .slice xa xl xc]) ⟨r0, r1, k7q hs, trivial⟩
end Go.Proofs.YtcfmjpnffembpaaGreat
